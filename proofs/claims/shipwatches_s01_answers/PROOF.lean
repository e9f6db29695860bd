import PyProof.Rows.All
import Wide.All
import OpenK.AllK
import Wide.FinOn
import Open.SpecLaws
import KE.OsGo
import HandS.ForSpec
import HandS.Comp
import HandS.Evl
import HandS.Walk
import HandS.Small
import PySem.Challenge.RW_shipwatches_s01_answers
set_option Elab.async false
set_option maxRecDepth 100000
set_option maxHeartbeats 4000000
set_option linter.all false
/-! The calls of a list, read one behind another: what each form gives. -/
namespace Sw
open PyFlat PyMu43
/-- the form of one call at a list's beginning, and what is left behind it -/
inductive Form : List Int → List (List Int) → List Int → Prop
  | begin_ (n f : Int) (L t : List Int) : Form (0 :: n :: f :: (L.length : Int) :: (L ++ t)) [[0, n, f], L] t
  | who (d h : Int) (t : List Int) : Form (1 :: d :: h :: t) [[1, d, h]] t
  | day (d : Int) (t : List Int) : Form (2 :: d :: t) [[2, d]] t
  | round (t : List Int) : Form (3 :: t) [[3]] t
  | even (t : List Int) : Form (4 :: t) [[4]] t
  | hours (a d e : Int) (t : List Int) : Form (5 :: a :: d :: e :: t) [[5, a, d, e]] t
  | rests (a : Int) (t : List Int) : Form (6 :: a :: t) [[6, a]] t
  | comes (a w d : Int) (t : List Int) : Form (7 :: a :: w :: d :: t) [[7, a, w, d]] t
  | cuts (k lo hi : Int) (t : List Int) : Form (8 :: k :: lo :: hi :: t) [[8, k, lo, hi]] t
  | kinds (n : Int) (t : List Int) : Form (9 :: n :: t) [[9, n]] t
  | swap (d w e v : Int) (t : List Int) : Form (10 :: d :: w :: e :: v :: t) [[10, d, w, e, v]] t
  | undo (i : Int) (t : List Int) : Form (11 :: i :: t) [[11, i]] t
  | swaps (t : List Int) : Form (12 :: t) [[12]] t
theorem len1 {r : List Int} (h : ¬ r.length < 1) : ∃ a t, r = a :: t := match r with
  | [] => absurd (by simp) h
  | a :: t => ⟨a, t, rfl⟩
theorem len2 {r : List Int} (h : ¬ r.length < 2) : ∃ a b t, r = a :: b :: t := match r with
  | [] => absurd (by simp) h
  | [_] => absurd (by simp) h
  | a :: b :: t => ⟨a, b, t, rfl⟩
theorem len3 {r : List Int} (h : ¬ r.length < 3) : ∃ a b c t, r = a :: b :: c :: t := match r with
  | [] => absurd (by simp) h
  | [_] => absurd (by simp) h
  | [_, _] => absurd (by simp) h
  | a :: b :: c :: t => ⟨a, b, c, t, rfl⟩
theorem len4 {r : List Int} (h : ¬ r.length < 4) : ∃ a b c d t, r = a :: b :: c :: d :: t := match r with
  | [] => absurd (by simp) h
  | [_] => absurd (by simp) h
  | [_, _] => absurd (by simp) h
  | [_, _, _] => absurd (by simp) h
  | a :: b :: c :: d :: t => ⟨a, b, c, d, t, rfl⟩
theorem call_plain {p : Int} {n : Nat} {r t : List Int} {c : List (List Int)} (hs : shape p = some (n, 0)) (h : PyFlat.call shape (p :: r) = some (c, t)) : ¬ r.length < n ∧ c = [p :: r.take n] ∧ t = r.drop n := by
  unfold PyFlat.call at h
  dsimp only at h
  rw [hs] at h
  dsimp only at h
  by_cases hl : r.length < n
  · rw [if_pos hl] at h
    cases h
  · rw [if_neg hl] at h
    unfold PyFlat.rows at h
    dsimp only at h
    cases h
    exact ⟨hl, rfl, rfl⟩
theorem call_rows {p : Int} {n : Nat} {r t : List Int} {c : List (List Int)} (hs : shape p = some (n, 1)) (h : PyFlat.call shape (p :: r) = some (c, t)) : ¬ r.length < n ∧ ∃ k r2, r.drop n = k :: r2 ∧ 0 ≤ k ∧ k.toNat ≤ r2.length ∧ c = [p :: r.take n, r2.take k.toNat] ∧ t = r2.drop k.toNat := by
  unfold PyFlat.call at h
  dsimp only at h
  rw [hs] at h
  dsimp only at h
  by_cases hl : r.length < n
  · rw [if_pos hl] at h
    cases h
  · rw [if_neg hl] at h
    refine ⟨hl, ?_⟩
    unfold PyFlat.rows at h
    cases hd : r.drop n with
    | nil =>
      rw [hd] at h
      simp [PyFlat.row] at h
    | cons k r2 =>
      rw [hd] at h
      unfold PyFlat.row at h
      dsimp only at h
      by_cases hk : 0 ≤ k ∧ k.toNat ≤ r2.length
      · rw [if_pos hk] at h
        unfold PyFlat.rows at h
        dsimp only at h
        cases h
        exact ⟨k, r2, rfl, hk.1, hk.2, rfl, rfl⟩
      · rw [if_neg hk] at h
        cases h
theorem form_of {p : Int} {r t : List Int} {c : List (List Int)} (h : PyFlat.call shape (p :: r) = some (c, t)) : Form (p :: r) c t := by
  by_cases h0 : p = 0
  · subst h0
    obtain ⟨hl, k, r2, hd, hk0, hkl, rfl, rfl⟩ := call_rows (n := 2) rfl h
    obtain ⟨a, b, t, rfl⟩ := len2 hl
    have e : t = k :: r2 := hd
    subst e
    have ek : k = ((r2.take k.toNat).length : Int) := by rw [List.length_take]; omega
    have er : r2 = r2.take k.toNat ++ r2.drop k.toNat := (List.take_append_drop _ _).symm
    have g := Form.begin_ a b (r2.take k.toNat) (r2.drop k.toNat)
    rw [← ek, ← er] at g
    exact g
  by_cases h1 : p = 1
  · subst h1
    obtain ⟨hl, rfl, rfl⟩ := call_plain (n := 2) rfl h
    obtain ⟨a, b, t, rfl⟩ := len2 hl
    exact .who a b t
  by_cases h2 : p = 2
  · subst h2
    obtain ⟨hl, rfl, rfl⟩ := call_plain (n := 1) rfl h
    obtain ⟨a, t, rfl⟩ := len1 hl
    exact .day a t
  by_cases h3 : p = 3
  · subst h3
    obtain ⟨hl, rfl, rfl⟩ := call_plain (n := 0) rfl h
    exact .round _
  by_cases h4 : p = 4
  · subst h4
    obtain ⟨hl, rfl, rfl⟩ := call_plain (n := 0) rfl h
    exact .even _
  by_cases h5 : p = 5
  · subst h5
    obtain ⟨hl, rfl, rfl⟩ := call_plain (n := 3) rfl h
    obtain ⟨a, b, c, t, rfl⟩ := len3 hl
    exact .hours a b c t
  by_cases h6 : p = 6
  · subst h6
    obtain ⟨hl, rfl, rfl⟩ := call_plain (n := 1) rfl h
    obtain ⟨a, t, rfl⟩ := len1 hl
    exact .rests a t
  by_cases h7 : p = 7
  · subst h7
    obtain ⟨hl, rfl, rfl⟩ := call_plain (n := 3) rfl h
    obtain ⟨a, b, c, t, rfl⟩ := len3 hl
    exact .comes a b c t
  by_cases h8 : p = 8
  · subst h8
    obtain ⟨hl, rfl, rfl⟩ := call_plain (n := 3) rfl h
    obtain ⟨a, b, c, t, rfl⟩ := len3 hl
    exact .cuts a b c t
  by_cases h9 : p = 9
  · subst h9
    obtain ⟨hl, rfl, rfl⟩ := call_plain (n := 1) rfl h
    obtain ⟨a, t, rfl⟩ := len1 hl
    exact .kinds a t
  by_cases h10 : p = 10
  · subst h10
    obtain ⟨hl, rfl, rfl⟩ := call_plain (n := 4) rfl h
    obtain ⟨a, b, c, d, t, rfl⟩ := len4 hl
    exact .swap a b c d t
  by_cases h11 : p = 11
  · subst h11
    obtain ⟨hl, rfl, rfl⟩ := call_plain (n := 1) rfl h
    obtain ⟨a, t, rfl⟩ := len1 hl
    exact .undo a t
  by_cases h12 : p = 12
  · subst h12
    obtain ⟨hl, rfl, rfl⟩ := call_plain (n := 0) rfl h
    exact .swaps _
  exfalso
  have hn : shape p = none := by
    unfold shape
    rw [if_neg h0, if_neg h1, if_neg h2, if_neg h3, if_neg h4, if_neg h5, if_neg h6, if_neg h7, if_neg h8, if_neg h9, if_neg h10, if_neg h11, if_neg h12]
  unfold PyFlat.call at h
  dsimp only at h
  rw [hn] at h
  cases h
theorem Form.whole {rest t : List Int} {c : List (List Int)} (h : Form rest c t) : PyMu43.whole c = c := by
  cases h <;> rfl
/-- what is left to be read, and that it may be asked -/
def Left (rest : List Int) (cs : List (List (List Int))) : Prop := (∃ f, PyFlat.calls shape f rest = some cs) ∧ ∀ c ∈ cs, Mu43Neutral.asked1 (PyMu43.whole c) = true
theorem Left.next {p : Int} {r : List Int} {cs : List (List (List Int))} (h : Left (p :: r) cs) : ∃ c t cs', cs = c :: cs' ∧ Form (p :: r) c t ∧ Left t cs' ∧ Mu43Neutral.asked1 c = true := by
  obtain ⟨⟨f, hf⟩, ha⟩ := h
  cases f with
  | zero =>
    unfold PyFlat.calls at hf
    cases hf
  | succ f =>
    unfold PyFlat.calls at hf
    cases hc : PyFlat.call shape (p :: r) with
    | none =>
      rw [hc] at hf
      cases hf
    | some x =>
      obtain ⟨c, t⟩ := x
      rw [hc] at hf
      dsimp only at hf
      cases hr : PyFlat.calls shape f t with
      | none =>
        rw [hr] at hf
        cases hf
      | some cs' =>
        rw [hr] at hf
        cases hf
        have fm := form_of hc
        refine ⟨c, t, cs', rfl, fm, ⟨⟨f, hr⟩, fun d hd => ha d (List.mem_cons_of_mem _ hd)⟩, ?_⟩
        have g := ha c List.mem_cons_self
        rw [fm.whole] at g
        exact g
theorem Left.nil {cs : List (List (List Int))} (h : Left [] cs) : cs = [] := by
  obtain ⟨⟨f, hf⟩, _⟩ := h
  cases f <;> (unfold PyFlat.calls at hf; cases hf; rfl)
/-- what is still to be told from a state on -/
def rest (s : Mu43.Abs) (cs : List (List (List Int))) : List Int := PyFlat.told (PyFlat.played Mu43Neutral.step s (cs.map PyMu43.whole))
theorem rest_nil (s : Mu43.Abs) : rest s [] = [] := rfl
theorem rest_cons {s : Mu43.Abs} {c : List (List Int)} {cs : List (List (List Int))} (hw : PyMu43.whole c = c) : rest s (c :: cs) = ((Mu43Neutral.step s c).2.length : Int) :: ((Mu43Neutral.step s c).2 ++ rest (Mu43Neutral.step s c).1 cs) := by
  unfold rest
  rw [List.map_cons, hw]
  show PyFlat.told ((Mu43Neutral.step s c).2 :: PyFlat.played Mu43Neutral.step (Mu43Neutral.step s c).1 (cs.map PyMu43.whole)) = _
  unfold PyFlat.told
  rw [List.flatMap_cons]
  rfl
/-- what is asked of a list gives what is left at its beginning, at most 60 calls -/
theorem left_of {l : List Int} (h : PyMu43.answers_asked l = true) : ∃ cs, Left l cs ∧ cs.length ≤ 60 ∧ PyMu43.answers l = rest none cs := by
  unfold PyMu43.answers_asked at h
  cases hc : PyFlat.calls shape l.length l with
  | none =>
    rw [hc] at h
    cases h
  | some cs =>
    rw [hc] at h
    dsimp only at h
    rw [Bool.and_eq_true, Bool.and_eq_true, Bool.and_eq_true, Bool.and_eq_true] at h
    obtain ⟨⟨⟨⟨_, h60⟩, _⟩, hask⟩, _⟩ := h
    refine ⟨cs, ⟨⟨_, hc⟩, fun c hcm => ?_⟩, of_decide_eq_true h60, ?_⟩
    · unfold Mu43Neutral.asked at hask
      rw [Bool.and_eq_true, Bool.and_eq_true, List.all_eq_true] at hask
      exact hask.2.2 _ (List.mem_map_of_mem hcm)
    · unfold PyMu43.answers PyMu43.calls
      rw [hc]
      rfl
end Sw

/-! The mathematics of a turn: sums over days, rounds, rests. Plain Lean. -/
namespace Sw
/-- what the document lets a ship be -/
structure OkT (t : Mu43.Turn) : Prop where
  t2 : 2 ≤ t.teams
  t5 : t.teams ≤ 5
  f : t.first < t.teams
  w2 : 2 ≤ t.long.length
  w8 : t.long.length ≤ 8
  pos : ∀ x ∈ t.long, 0 < x
  sum : Mu43.total t.long = 24
/-! ### sums -/
theorem foldl_add (l : List Nat) (a : Nat) : l.foldl (fun (a b : Nat) => a + b) a = a + l.sum := by
  induction l generalizing a with
  | nil => simp
  | cons x l ih => rw [List.foldl_cons, ih, List.sum_cons]; omega
theorem total_sum (l : List Nat) : Mu43.total l = l.sum := by
  unfold Mu43.total
  rw [foldl_add]
  omega
theorem sum_cast (l : List Nat) : (l.map fun (n : Nat) => (n : Int)).sum = ((l.sum : Nat) : Int) := by
  induction l with
  | nil => rfl
  | cons x l ih => rw [List.map_cons, List.sum_cons, List.sum_cons, ih]; push_cast; rfl
theorem sum_filter (n : Nat) (p : Nat → Bool) (g : Nat → Nat) : (((List.range n).filter p).map g).sum = ((List.range n).map fun i => if p i = true then g i else 0).sum := by
  induction n with
  | zero => rfl
  | succ n ih =>
    rw [List.range_succ, List.filter_append, List.map_append, List.map_append, List.sum_append, List.sum_append, ih]
    by_cases h : p n = true
    · simp [h]
    · simp [h]
theorem map_range_congr {α : Type} {n : Nat} {f g : Nat → α} (h : ∀ i, i < n → f i = g i) : (List.range n).map f = (List.range n).map g :=
  List.map_congr_left fun i hi => h i (List.mem_range.mp hi)
/-- a sum over m days of n watches -/
theorem range_mul (m n : Nat) : List.range (m * n) = (List.range m).flatMap fun d => (List.range n).map fun w => d * n + w := by
  induction m with
  | zero => simp
  | succ m ih =>
    rw [Nat.succ_mul, List.range_add, ih, List.range_succ, List.flatMap_append]
    simp
theorem sum_flatMap {α : Type} (l : List α) (f : α → List Nat) : (l.flatMap f).sum = (l.map fun x => (f x).sum).sum := by
  induction l with
  | nil => rfl
  | cons x l ih => rw [List.flatMap_cons, List.sum_append, List.map_cons, List.sum_cons, ih]
theorem sum_days (m n : Nat) (g : Nat → Nat) : ((List.range (m * n)).map g).sum = ((List.range m).map fun d => ((List.range n).map fun w => g (d * n + w)).sum).sum := by
  rw [range_mul, List.map_flatMap, sum_flatMap]
  congr 1
  apply map_range_congr
  intro d _
  rw [List.map_map]
  rfl
/-- hours of whom f says, of so many watches from one on -/
def part (t : Mu43.Turn) (f : Nat → Nat) (a n k : Nat) : Nat := ((List.range n).map fun (i : Nat) => if f (k + i) = a then Mu43.hours t (k + i) else 0).sum
theorem share_part (t : Mu43.Turn) (a n k : Nat) : Mu43.share t a n k = part t (Mu43.turn t) a n k := by
  unfold Mu43.share part
  rw [total_sum]
theorem stood_part (s : Mu43.State) (a n k : Nat) : Mu43.stood s a n k = part s.turn (Mu43.who s) a n k := by
  unfold Mu43.stood part
  rw [total_sum]
theorem part_days (t : Mu43.Turn) (f : Nat → Nat) (a m n k : Nat) : part t f a (m * n) k = ((List.range m).map fun d => part t f a n (k + d * n)).sum := by
  unfold part
  rw [sum_days m n fun i => if f (k + i) = a then Mu43.hours t (k + i) else 0]
  congr 1
  apply map_range_congr
  intro d _
  congr 1
  apply map_range_congr
  intro w _
  rw [Nat.add_assoc]
theorem hours_at {t : Mu43.Turn} {d w : Nat} (hw : w < t.long.length) : Mu43.hours t (d * t.long.length + w) = t.long.getD w 0 := by
  unfold Mu43.hours Mu43.watches
  rw [Nat.add_comm, Nat.add_mul_mod_self_right, Nat.mod_eq_of_lt hw]
/-- one day's hours, as they are summed up by the watches that are its -/
theorem day_part {t : Mu43.Turn} {f : Nat → Nat} {a d : Nat} : (((List.range t.long.length).filter fun w => decide (f (Mu43.number t d w) = a)).map fun w => t.long.getD w 0).sum = part t f a t.long.length (Mu43.number t d 0) := by
  rw [sum_filter]
  unfold part
  congr 1
  apply map_range_congr
  intro w hw
  have e : Mu43.number t d 0 + w = Mu43.number t d w := by unfold Mu43.number; omega
  have e2 : Mu43.hours t (Mu43.number t d w) = t.long.getD w 0 := hours_at hw
  rw [e, e2]
  simp
theorem days_part {t : Mu43.Turn} {f : Nat → Nat} {a b m : Nat} : ((List.range m).map fun i => part t f a t.long.length (Mu43.number t (b + i) 0)).sum = part t f a (m * t.long.length) (Mu43.number t b 0) := by
  rw [part_days]
  congr 1
  apply map_range_congr
  intro i _
  have e : Mu43.number t (b + i) 0 = Mu43.number t b 0 + i * t.long.length := by unfold Mu43.number Mu43.watches; rw [Nat.add_mul]; omega
  rw [e]
/-! ### rounds: few teams, few watches -/
def roundLook (T n : Nat) : Bool := decide (1 ≤ T / Nat.gcd T n) && (decide (T / Nat.gcd T n ≤ T) && (decide ((T / Nat.gcd T n * n) % T = 0) && (((List.range 6).all fun d => decide (d < 1) || (decide (T / Nat.gcd T n ≤ d) || decide ((d * n) % T ≠ 0))) && (decide (T / Nat.gcd T n = T) == decide (Nat.gcd T n = 1)))))
theorem roundLook_all : ((List.range 6).all fun T => (List.range 9).all fun n => decide (T < 2) || (decide (n < 2) || roundLook T n)) = true := by decide +kernel
theorem round_facts (T : Nat) (hT : T < 6) (n : Nat) (hn : n < 9) (hT2 : 2 ≤ T) (hn2 : 2 ≤ n) : (1 ≤ T / Nat.gcd T n ∧ T / Nat.gcd T n ≤ T) ∧ (T / Nat.gcd T n * n) % T = 0 ∧ (∀ d, d < 6 → 1 ≤ d → d < T / Nat.gcd T n → (d * n) % T ≠ 0) ∧ (T / Nat.gcd T n = T ↔ Nat.gcd T n = 1) := by
  have h := List.all_eq_true.mp (List.all_eq_true.mp roundLook_all T (List.mem_range.mpr hT)) n (List.mem_range.mpr hn)
  rw [decide_eq_false (by omega), decide_eq_false (by omega), Bool.false_or, Bool.false_or] at h
  unfold roundLook at h
  simp only [Bool.and_eq_true, decide_eq_true_eq, beq_iff_eq, decide_eq_decide] at h
  obtain ⟨h1, h2, h3, h4, h5⟩ := h
  refine ⟨⟨h1, h2⟩, h3, fun d hd hd1 hdl => ?_, h5⟩
  have q := List.all_eq_true.mp h4 d (List.mem_range.mpr hd)
  rw [decide_eq_false (by omega), decide_eq_false (by omega), Bool.false_or, Bool.false_or] at q
  exact of_decide_eq_true q
theorem add_mod_self {f x T : Nat} (hf : f < T) : (f + x) % T = f ↔ x % T = 0 := by
  have hT : 0 < T := by omega
  have h1 := Nat.mod_lt x hT
  rw [Nat.add_mod, Nat.mod_eq_of_lt hf]
  by_cases h : f + x % T < T
  · rw [Nat.mod_eq_of_lt h]
    omega
  · have e : (f + x % T) % T = f + x % T - T := by
      rw [Nat.mod_eq_sub_mod (by omega), Nat.mod_eq_of_lt (by omega)]
    rw [e]
    omega
theorem OkT.round {t : Mu43.Turn} (O : OkT t) : (1 ≤ Mu43.round t ∧ Mu43.round t ≤ t.teams) ∧ Mu43.turn t (Mu43.number t (Mu43.round t) 0) = t.first ∧ (∀ d, 1 ≤ d → d < Mu43.round t → Mu43.turn t (Mu43.number t d 0) ≠ t.first) ∧ (Mu43.round t = t.teams ↔ Mu43.fair t = true) := by
  have h := round_facts t.teams (by have := O.t5; omega) t.long.length (by have := O.w8; omega) O.t2 O.w2
  obtain ⟨h1, h2, h3, h4⟩ := h
  have t5 := O.t5
  refine ⟨h1, ?_, fun d hd hlt => ?_, ?_⟩
  · show (t.first + (t.teams / Nat.gcd t.teams t.long.length * t.long.length + 0)) % t.teams = t.first
    exact (add_mod_self O.f).mpr h2
  · show (t.first + (d * t.long.length + 0)) % t.teams ≠ t.first
    intro e
    refine h3 d ?_ hd hlt ((add_mod_self O.f).mp e)
    have : d < t.teams / Nat.gcd t.teams t.long.length := hlt
    omega
  · unfold Mu43.fair
    rw [beq_iff_eq]
    exact h4
theorem turn_lt {t : Mu43.Turn} (O : OkT t) (g : Nat) : Mu43.turn t g < t.teams := Nat.mod_lt _ (by have := O.t2; omega)
/-! ### rests -/
theorem rest_at {t : Mu43.Turn} {g : Nat} : (((List.range (t.teams - 1)).map fun i => (g % t.long.length + (1 + i)) % t.long.length).map fun o => t.long.getD o 0).sum = Mu43.rest t g := by
  unfold Mu43.rest
  rw [total_sum, List.map_map]
  congr 1
  apply map_range_congr
  intro i _
  show t.long.getD ((g % t.long.length + (1 + i)) % t.long.length) 0 = t.long.getD ((g + 1 + i) % t.long.length) 0
  rw [Nat.mod_add_mod, Nat.add_assoc]
/-- the watches of a round that are a team's, day by day -/
def stands (t : Mu43.Turn) (q m : Nat) : List Nat := (List.range m).flatMap fun d => (List.range t.long.length).filter fun w => decide (Mu43.turn t (Mu43.number t d w) = q)
theorem stands_succ (t : Mu43.Turn) (q m : Nat) : stands t q (m + 1) = stands t q m ++ (List.range t.long.length).filter fun w => decide (Mu43.turn t (Mu43.number t m w) = q) := by
  unfold stands
  rw [List.range_succ, List.flatMap_append]
  simp
theorem stands_len (t : Mu43.Turn) (q m : Nat) : (stands t q m).length ≤ m * t.long.length := by
  induction m with
  | zero => simp [stands]
  | succ m ih =>
    rw [stands_succ, List.length_append, Nat.succ_mul]
    have h := List.length_filter_le (fun w => decide (Mu43.turn t (Mu43.number t m w) = q)) (List.range t.long.length)
    rw [List.length_range] at h
    omega
theorem stands_lt {t : Mu43.Turn} {q m w : Nat} (h : w ∈ stands t q m) : w < t.long.length := by
  unfold stands at h
  obtain ⟨d, _, h2⟩ := List.mem_flatMap.mp h
  exact List.mem_range.mp (List.mem_filter.mp h2).1
theorem filter_flatMap {α β : Type} (l : List α) (f : α → List β) (p : β → Bool) : (l.flatMap f).filter p = l.flatMap fun x => (f x).filter p := by
  induction l with
  | nil => rfl
  | cons x l ih => rw [List.flatMap_cons, List.filter_append, List.flatMap_cons, ih]
/-- the rests of a round, told by the watches -/
theorem rests_stands {t : Mu43.Turn} (q m : Nat) : (stands t q m).map (fun w => Mu43.rest t w) = ((List.range (m * t.long.length)).filter fun (g : Nat) => Mu43.turn t g == q).map fun (g : Nat) => Mu43.rest t g := by
  unfold stands
  rw [range_mul, filter_flatMap, List.map_flatMap, List.map_flatMap]
  congr 1
  funext d
  rw [List.filter_map, List.map_map]
  have hf : ((fun (g : Nat) => Mu43.turn t g == q) ∘ fun w => d * t.long.length + w) = fun w => decide (Mu43.turn t (Mu43.number t d w) = q) := by
    funext w
    show (Mu43.turn t (d * t.long.length + w) == q) = decide (Mu43.turn t (Mu43.number t d w) = q)
    unfold Mu43.number Mu43.watches
    rw [Bool.beq_eq_decide_eq]
  rw [hf]
  apply List.map_congr_left
  intro w hw
  show Mu43.rest t w = Mu43.rest t (d * t.long.length + w)
  unfold Mu43.rest
  congr 1
  apply map_range_congr
  intro i _
  unfold Mu43.hours Mu43.watches
  have e : d * t.long.length + w + 1 + i = (w + 1 + i) + d * t.long.length := by omega
  rw [e, Nat.add_mul_mod_self_right]
theorem rests_eq {t : Mu43.Turn} (q : Nat) : Mu43.rests t q = (stands t q (Mu43.round t)).map fun w => Mu43.rest t w := (rests_stands q _).symm
theorem rests_ne {t : Mu43.Turn} (O : OkT t) {q : Nat} (hq : q < t.teams) : Mu43.rests t q ≠ [] := by
  have h := round_facts t.teams (by have := O.t5; omega) t.long.length (by have := O.w8; omega) O.t2 O.w2
  have hR : (Mu43.round t * t.long.length) % t.teams = 0 := h.2.1
  have hR1 : 1 ≤ Mu43.round t := h.1.1
  have w2 := O.w2
  have tf := O.f
  have hp : 0 < Mu43.round t * t.long.length := Nat.mul_pos hR1 (by omega)
  have hge : t.teams ≤ Mu43.round t * t.long.length := Nat.le_of_dvd hp (Nat.dvd_of_mod_eq_zero hR)
  -- the watch at which q stands for the first time
  have hg : ∃ g, g < t.teams ∧ Mu43.turn t g = q := by
    by_cases c : t.first ≤ q
    · refine ⟨q - t.first, by omega, ?_⟩
      unfold Mu43.turn
      rw [show t.first + (q - t.first) = q by omega, Nat.mod_eq_of_lt hq]
    · refine ⟨q + t.teams - t.first, by omega, ?_⟩
      unfold Mu43.turn
      rw [show t.first + (q + t.teams - t.first) = q + t.teams by omega, Nat.add_mod_right, Nat.mod_eq_of_lt hq]
  obtain ⟨g, hg1, hg2⟩ := hg
  intro e
  unfold Mu43.rests at e
  have hm : g ∈ (List.range (Mu43.round t * Mu43.watches t)).filter fun (g : Nat) => Mu43.turn t g == q := by
    refine List.mem_filter.mpr ⟨List.mem_range.mpr ?_, ?_⟩
    · show g < Mu43.round t * t.long.length
      omega
    · rw [beq_iff_eq]
      exact hg2
  have e2 := List.map_eq_nil_iff.mp e
  rw [e2] at hm
  cases hm
theorem least_mem : ∀ {l : List Nat}, l ≠ [] → Mu43.least l ∈ l
  | [], h => absurd rfl h
  | [x], _ => by simp [Mu43.least]
  | x :: y :: l, _ => by
    have ih := least_mem (l := y :: l) (by simp)
    show min x (Mu43.least (y :: l)) ∈ x :: y :: l
    rcases Nat.le_total x (Mu43.least (y :: l)) with h | h
    · rw [Nat.min_eq_left h]
      exact List.mem_cons_self
    · rw [Nat.min_eq_right h]
      exact List.mem_cons_of_mem _ ih
theorem least_le : ∀ {l : List Nat} {y : Nat}, y ∈ l → Mu43.least l ≤ y
  | [x], y, h => by
    rcases List.mem_cons.mp h with rfl | h
    · exact Nat.le_refl _
    · cases h
  | x :: z :: l, y, h => by
    show min x (Mu43.least (z :: l)) ≤ y
    rcases List.mem_cons.mp h with rfl | h
    · exact Nat.min_le_left _ _
    · exact Nat.le_trans (Nat.min_le_right _ _) (least_le h)
theorem foldl_max : ∀ (l : List Nat) (a : Nat), (∀ y ∈ l, y ≤ l.foldl (fun (a b : Nat) => max a b) a) ∧ a ≤ l.foldl (fun (a b : Nat) => max a b) a ∧ (l.foldl (fun (a b : Nat) => max a b) a = a ∨ l.foldl (fun (a b : Nat) => max a b) a ∈ l)
  | [], a => ⟨fun _ h => (nomatch h), Nat.le_refl _, .inl rfl⟩
  | x :: l, a => by
    obtain ⟨h1, h2, h3⟩ := foldl_max l (max a x)
    rw [List.foldl_cons]
    refine ⟨fun y hy => ?_, by omega, ?_⟩
    · rcases List.mem_cons.mp hy with rfl | hy
      · omega
      · exact h1 y hy
    · rcases h3 with h3 | h3
      · rcases Nat.le_total a x with c | c
        · rw [Nat.max_eq_right c] at h3 ⊢
          rw [h3]
          exact .inr List.mem_cons_self
        · rw [Nat.max_eq_left c] at h3 ⊢
          exact .inl h3
      · exact .inr (List.mem_cons_of_mem _ h3)
theorem le_most {l : List Nat} {y : Nat} (h : y ∈ l) : y ≤ Mu43.most l := (foldl_max l 0).1 y h
theorem most_mem {l : List Nat} (h : l ≠ []) : Mu43.most l ∈ l := by
  rcases (foldl_max l 0).2.2 with e | e
  · match l, h with
    | x :: r, _ =>
      have hx := le_most (l := x :: r) List.mem_cons_self
      have e0 : Mu43.most (x :: r) = 0 := e
      have : x = 0 := by omega
      rw [e0, ← this]
      exact List.mem_cons_self
  · exact e
/-! ### the watch an hour is in -/
theorem watchAt_step (x : Nat) (l : List Nat) (h : Nat) : Mu43.watchAt (x :: l) h = if h < x then (0, x - h) else ((Mu43.watchAt l (h - x)).1 + 1, (Mu43.watchAt l (h - x)).2) := rfl
/-- the first w watches are over at the hour h: then the rest tells the watch -/
theorem watchAt_drop : ∀ (l : List Nat) (w h : Nat), w ≤ l.length → (l.take w).sum ≤ h → Mu43.watchAt l h = ((Mu43.watchAt (l.drop w) (h - (l.take w).sum)).1 + w, (Mu43.watchAt (l.drop w) (h - (l.take w).sum)).2)
  | l, 0, h, _, _ => by simp
  | [], w + 1, h, hw, _ => by simp at hw
  | x :: l, w + 1, h, hw, hs => by
    have hs' : x + (l.take w).sum ≤ h := by simpa using hs
    have ih := watchAt_drop l w (h - x) (by simpa using hw) (by omega)
    rw [watchAt_step, if_neg (by omega), ih]
    simp only [List.take_succ_cons, List.drop_succ_cons, List.sum_cons]
    rw [Nat.sub_sub]
    simp [Nat.add_assoc]
theorem watchAt_here {l : List Nat} {w h : Nat} (hw : w < l.length) (h1 : (l.take w).sum ≤ h) (h2 : h < (l.take (w + 1)).sum) : Mu43.watchAt l h = (w, (l.take (w + 1)).sum - h) := by
  rw [watchAt_drop l w h (by omega) h1]
  have e : l.drop w = l[w] :: l.drop (w + 1) := by rw [List.drop_eq_getElem_cons hw]
  have e2 : (l.take (w + 1)).sum = (l.take w).sum + l[w] := by rw [List.take_succ_eq_append_getElem hw, List.sum_append]; simp
  rw [e, watchAt_step, if_pos (by omega)]
  simp
  omega
theorem take_sum_succ {l : List Nat} {w : Nat} (hw : w < l.length) : (l.take (w + 1)).sum = (l.take w).sum + l.getD w 0 := by
  rw [List.take_succ_eq_append_getElem hw, List.sum_append, List.getD_eq_getElem?_getD, List.getElem?_eq_getElem hw]
  simp
end Sw

/-! More words of values: fields, methods, sums, least and greatest, lists put together. -/
namespace Sw
open PySem PySem.Spec PyProof.Rows L2 Evl
section
variable {K : PySem.W.Frag} {σ : L2.St} {H H' : Hp} {ta tb te tl : TE} {t u : TT} {x y z v : V} {D : Ends} {tu tz : TS}
theorem ev_fld {a C dx : Addr} {fs : List (Str × V)} {f : Str} (h : Ev ta σ H (.ref a)) (ho : H a = some (.ins C dx fs)) (hc : Cls K C) (hn : NoAttr K C f) (hl : fs.lookup f = some v) : Ev (tFld K ta f) σ H v :=
  fun _ e _ q => h _ e _ fun H2 e2 => ⟨a, C, dx, fs, v, rfl, (e.trans e2) a _ ho, hc, hn, hl, q H2 e2⟩
theorem ev_meth {a C dx : Addr} {fs : List (Str × V)} {m : Str} {sp : Sp} {dvs vs : List V} {E : XK} {t : TA} (h : Ev ta σ H (.ref a)) (ho : H a = some (.ins C dx fs)) (hl : fs.lookup m = none) (ha : EvA t σ H vs) (hs : SpV sp (.ref a :: (vs ++ dvs)) H z) :
    Ev (tMeth C m sp dvs E ta t) σ H z := fun H1 e Q q =>
  h H1 e _ fun H2 e2 => ⟨a, dx, fs, rfl, (e.trans e2) a _ ho, hl, ha H2 (e.trans e2) _ fun H3 e3 => hs H3 ((e.trans e2).trans e3) Q (fun H4 e4 => q H4 ((e2.trans e3).trans e4)) E⟩
theorem el_meth {a C dx : Addr} {fs : List (Str × V)} {m : Str} {sp : Sp} {dvs vs xs : List V} {E : XK} {t : TA} (h : Ev ta σ H (.ref a)) (ho : H a = some (.ins C dx fs)) (hl : fs.lookup m = none) (ha : EvA t σ H vs) (hs : SpL sp (.ref a :: (vs ++ dvs)) H xs) :
    EvL (tMeth C m sp dvs E ta t) σ H xs := fun H1 e Q q =>
  h H1 e _ fun H2 e2 => ⟨a, dx, fs, rfl, (e.trans e2) a _ ho, hl, ha H2 (e.trans e2) _ fun H3 e3 => hs H3 ((e.trans e2).trans e3) Q (fun p H4 hp e4 h4 => q p H4 (fresh_back (e2.trans e3) hp) ((e2.trans e3).trans e4) h4) E⟩
theorem ev_sumN {ns : List Int} (h : EvL ta σ H (ns.map V.int)) : Ev (tCB (rSum K) (tCons ta tNil)) σ H (.int ns.sum) := fun H1 e _ q =>
  h H1 e _ fun p H2 _ e2 h2 => ⟨p, ns, rfl, sq_of h2, q H2 e2⟩
theorem ev_sumR {a : Addr} {ns : List Int} (h : Ev ta σ H (.ref a)) (hs : SqL K H a (ns.map V.int)) : Ev (tCB (rSum K) (tCons ta tNil)) σ H (.int ns.sum) := fun H1 e _ q =>
  h H1 e _ fun H2 e2 => ⟨a, ns, rfl, ex_l (e.trans e2) hs, q H2 e2⟩
theorem ev_minR {a : Addr} {ns : List Int} {m : Int} (h : Ev ta σ H (.ref a)) (hs : SqL K H a (ns.map V.int)) (hm : m ∈ ns) (hle : ∀ y ∈ ns, m ≤ y) : Ev (tCB (rMin K) (tCons ta tNil)) σ H (.int m) := fun H1 e _ q =>
  h H1 e _ fun H2 e2 => ⟨a, ns, rfl, ex_l (e.trans e2) hs, List.length_pos_of_mem hm, fun m' h1 h2 => by
    have e0 : m' = m := Int.le_antisymm (h2 m hm) (hle m' h1)
    rw [e0]
    exact q H2 e2⟩
theorem ev_maxR {a : Addr} {ns : List Int} {m : Int} (h : Ev ta σ H (.ref a)) (hs : SqL K H a (ns.map V.int)) (hm : m ∈ ns) (hle : ∀ y ∈ ns, y ≤ m) : Ev (tCB (rMax K) (tCons ta tNil)) σ H (.int m) := fun H1 e _ q =>
  h H1 e _ fun H2 e2 => ⟨a, ns, rfl, ex_l (e.trans e2) hs, List.length_pos_of_mem hm, fun m' h1 h2 => by
    have e0 : m' = m := Int.le_antisymm (hle m' h1) (h2 m hm)
    rw [e0]
    exact q H2 e2⟩
/-- a new list and a list that stands, put together -/
theorem el_catR {a : Addr} {xs ys : List V} (ha : EvL ta σ H xs) (hb : Ev tb σ H (.ref a)) (hy : H a = some (.lst ys)) (hz : xs.length + ys.length ≤ 100000) : EvL (tOp rCat ta tb) σ H (xs ++ ys) := fun H1 e _ q =>
  ha H1 e _ fun p H2 hp e2 h2 => hb H2 (e.trans e2) _ fun H3 e3 => ⟨p, a, xs, ys, rfl, rfl, e3 p _ h2, ((e.trans e2).trans e3) a _ hy, sz_of hz, fun r hr =>
    q r _ (fresh_back (e2.trans e3) hr) ((e2.trans e3).trans (Ex.new hr)) upd_same⟩
theorem el_if {b : Bool} {xs : List V} (h : EvT t σ H b) (h1 : b = true → EvL ta σ H xs) (h2 : b = false → EvL tb σ H xs) : EvL (tIf t ta tb) σ H xs := fun H1 e Q q => h H1 e _ fun H2 e2 => by
  cases b with
  | true =>
    show ta σ H2 Q
    exact h1 rfl H2 (e.trans e2) Q fun p H3 hp e3 => q p H3 (fresh_back e2 hp) (e2.trans e3)
  | false =>
    show tb σ H2 Q
    exact h2 rfl H2 (e.trans e2) Q fun p H3 hp e3 => q p H3 (fresh_back e2 hp) (e2.trans e3)
theorem el_is {xs ys : List V} (h : EvL te σ H xs) (e : xs = ys) : EvL te σ H ys := by
  rw [← e]
  exact h
theorem et_yes : EvT tYes σ H true := fun H1 _ _ q => q H1 (Ex.refl H1)
theorem et_eqI {i j : Int} (ha : Ev ta σ H (.int i)) (hb : Ev tb σ H (.int j)) : EvT (tTest (tOp rEq ta tb)) σ H (decide (i = j)) :=
  et_is (et_test (ev_op ha hb (rv_eq rfl))) (by simp)
theorem et_neI {i j : Int} (ha : Ev ta σ H (.int i)) (hb : Ev tb σ H (.int j)) : EvT (tTest (tOp rNe ta tb)) σ H (!decide (i = j)) :=
  et_is (et_test (ev_op ha hb (rv_ne rfl))) (by simp)
theorem ev_eqI {i j : Int} (ha : Ev ta σ H (.int i)) (hb : Ev tb σ H (.int j)) : Ev (tOp rEq ta tb) σ H (.bl (decide (i = j))) :=
  ev_is (ev_op ha hb (rv_eq rfl)) (by simp)
theorem et_I0 {g : Int → Int → Bool} {i j : Int} (ha : Ev ta σ H (.int i)) (hb : Ev tb σ H (.int j)) : EvT (tTest (tOp (rI0 fun i j => .bl (g i j)) ta tb)) σ H (g i j) := et_test (ev_op ha hb rv_I0)
/-- x is None -/
theorem et_isN (ha : Ev ta σ H x) : EvT (tTest (tOp (fun x y H Q => y = .non ∧ Q (.bl (decide (x = .non))) H) ta (tC .non))) σ H (decide (x = .non)) := fun H1 e _ q =>
  ha H1 e _ fun H2 e2 => ⟨rfl, _, rfl, q H2 e2⟩
/-- a comprehension over range(lo, n) -/
theorem el_lcR2 {ta : TA} {j : Nat} {vs : List Nat} {lo n : Int} (f : Nat → Bool) (v : Nat → V) (h : EvA ta σ H [.int lo, .int n]) (hn : -100000 ≤ lo ∧ lo ≤ 100000 ∧ -100000 ≤ n ∧ n ≤ 100000 ∧ n - lo ≤ 40000) (hw : ∀ x, wipe ((wipe σ vs).set j (some x)) vs = wipe σ vs)
    (ht : ∀ (i : Nat) H1, Ex H H1 → lo + (i : Int) < n → EvT t ((wipe σ vs).set j (some (.int (lo + (i : Int))))) H1 (f i)) (he : ∀ (i : Nat) H1, Ex H H1 → lo + (i : Int) < n → f i = true → Ev te ((wipe σ vs).set j (some (.int (lo + (i : Int))))) H1 (v i)) :
    EvL (tLc (iRng2 ta) (gName j) t te vs) σ H (given (n - lo).toNat f v) := fun H0 e Q q => h H0 e _ fun H1 e1 => ⟨lo, n, rfl, ⟨by omega, by omega, by omega, by omega⟩, fun Dl hD =>
  lc_range (lo := lo) (n := (n - lo).toNat) (Cw H1 f v Dl) ⟨hD, Ex.new hD, upd_same⟩ (fun i H' hi p =>
    ⟨hw _, cw_turn p (by omega) (ht i H1 (e.trans e1) (by omega)) (fun hf => he i H1 (e.trans e1) (by omega) hf)⟩) (fun H' p => q Dl H' (fresh_back e1 p.1) (e1.trans p.2.1) p.2.2)⟩
/-- xs.extend(a new list) -/
theorem s_extL {l : Addr} {xs ys : List V} (hl : H l = some (.lst xs)) (ha : Ev ta σ H (.ref l)) (h : EvL te σ H ys) (hz : xs.length + ys.length ≤ 100000) (k : ∀ H1, Ex H H1 → D.nx σ (upd H1 l (.lst (xs ++ ys)))) :
    tDrop (tBM K "list" rExtend ta (tCons te tNil)) D σ H := ha H (Ex.refl H) _ fun H1 e1 =>
  ⟨Or.inl ⟨rfl, xs, sq_of (e1 l _ hl)⟩, h H1 e1 _ fun p H2 _ e2 h2 => ⟨l, p, xs, ys, rfl, rfl, e2 l _ (e1 l _ hl), h2, sz_of hz, k H2 (e1.trans e2)⟩⟩
/-- xs.extend(a list that stands) -/
theorem s_extR {l b : Addr} {xs ys : List V} (hl : H l = some (.lst xs)) (ha : Ev ta σ H (.ref l)) (h : Ev te σ H (.ref b)) (hb : H b = some (.lst ys)) (hz : xs.length + ys.length ≤ 100000) (k : ∀ H1, Ex H H1 → D.nx σ (upd H1 l (.lst (xs ++ ys)))) :
    tDrop (tBM K "list" rExtend ta (tCons te tNil)) D σ H := ha H (Ex.refl H) _ fun H1 e1 =>
  ⟨Or.inl ⟨rfl, xs, sq_of (e1 l _ hl)⟩, h H1 e1 _ fun H2 e2 => ⟨l, b, xs, ys, rfl, rfl, e2 l _ (e1 l _ hl), (e1.trans e2) b _ hb, sz_of hz, k H2 (e1.trans e2)⟩⟩
theorem q_extR {l b : Addr} {xs ys : List V} (hl : H l = some (.lst xs)) (ha : Ev ta σ H (.ref l)) (h : Ev te σ H (.ref b)) (hb : H b = some (.lst ys)) (hz : xs.length + ys.length ≤ 100000) (k : ∀ H1, Ex H H1 → tz D σ (upd H1 l (.lst (xs ++ ys)))) :
    tSeq (tDrop (tBM K "list" rExtend ta (tCons te tNil))) tz D σ H := s_extR (D := { D with nx := tz D }) hl ha h hb hz k
end
/-! ### what a comprehension gives, as ints -/
theorem given_ints (n : Nat) (f : Nat → Bool) (g : Nat → Int) : given n f (fun i => V.int (g i)) = (((List.range n).filter f).map g).map V.int := by
  unfold given
  rw [List.map_map]
  rfl
theorem filter_all {n : Nat} {f : Nat → Bool} (h : ∀ i, i < n → f i = true) : (List.range n).filter f = List.range n :=
  List.filter_eq_self.mpr fun i hi => h i (List.mem_range.mp hi)
theorem atI_int {xs : List V} {j : Nat} {i : Int} {v : V} (hi : i = (j : Int)) (h : xs[j]? = some v) : atI xs i = some v := by
  subst hi
  unfold atI
  rw [ixN_nat (List.getElem?_eq_some_iff.mp h).1]
  exact h
/-! ### a module's whole number, a module's object -/
theorem pe_gint {X : Cx} {x : Str} {i : Int} {t : Tok} {pos : Pos} (hg : Gl X x) (hm : X.mg x = some (.int i t)) (hd : (x == ("__debug__" : Str)) = false := by decide) : PE X (.Name x pos) (tC (.int i)) := pe_glob hg hm ⟨t, rfl⟩ hd
theorem pe_gref {X : Cx} {x : Str} {a : Addr} {pos : Pos} (hg : Gl X x) (hm : X.mg x = some (.ref a)) (hd : (x == ("__debug__" : Str)) = false := by decide) : PE X (.Name x pos) (tC (.ref a)) := pe_glob (v := .ref a) hg hm rfl hd
/-! ### a promise kept, and where the def stands -/
def FnP (P : Program) (w : World) (K : PySem.W.Frag) (mg : Str → Option Value) (base : Heap) (k : Nat) (x : Str) (ps : List Str) (sp : Sp) : Prop := ∃ (f : Addr) (fd : FuncData), FnOk P w K mg base CX0 k f fd ps sp ∧ Binds K fd ps [] ∧ mg x = some (.ref f) ∧ PySem.W.keepIn K (.ref f) = true
def MeP (P : Program) (w : World) (K : PySem.W.Frag) (mg : Str → Option Value) (base : Heap) (C : Addr) (k : Nat) (m : Str) (ps : List Str) (sp : Sp) : Prop := ∃ (f : Addr) (fd : FuncData), FnOk P w K mg base CX0 k f fd ps sp ∧ Binds K fd ps [] ∧ Meth K C m f
def MkP (P : Program) (w : World) (K : PySem.W.Frag) (mg : Str → Option Value) (base : Heap) (C : Addr) (k : Nat) (ps : List Str) (sp : Sp) : Prop := ∃ (f : Addr) (fd : FuncData), FnOk P w K mg base CX0 k f fd ps sp ∧ Binds K fd ps [] ∧ Mk K C f
end Sw

namespace Sw
open PySem PySem.Spec PyProof.Rows L2
def top (i : Nat) : Stmt := PySem.Challenge.pw_shipwatches_s01_answers.main.body.getD i (.Pass ⟨0, 0, 0, 0⟩)
abbrev s_may_be_teams : Stmt := top 6
abbrev s_may_be_watches : Stmt := top 7
abbrev s_may_be_ship : Stmt := top 8
abbrev s_days_of_round : Stmt := top 9
abbrev s_makes_fair_turn : Stmt := top 10
abbrev s_Ship_init : Stmt := inClass (top 11) 0
abbrev s_Ship_watches : Stmt := inClass (top 11) 1
abbrev s_Ship_has_team : Stmt := inClass (top 11) 2
abbrev s_Ship_has_watch : Stmt := inClass (top 11) 3
abbrev s_Ship_place_of : Stmt := inClass (top 11) 4
abbrev s_Ship_day_and_watch : Stmt := inClass (top 11) 5
abbrev s_Ship_length_at : Stmt := inClass (top 11) 6
abbrev s_Ship_turn_at : Stmt := inClass (top 11) 7
abbrev s_Ship_round_days : Stmt := inClass (top 11) 8
abbrev s_Ship_is_fair : Stmt := inClass (top 11) 9
abbrev s_Ship_places_in_round : Stmt := inClass (top 11) 10
abbrev s_Ship_hours_in_round : Stmt := inClass (top 11) 11
abbrev s_Ship_rest_behind : Stmt := inClass (top 11) 12
abbrev s_Ship_rests_of : Stmt := inClass (top 11) 13
abbrev s_Ship_day_it_comes : Stmt := inClass (top 11) 14
abbrev s_ways_with_one_more : Stmt := top 13
abbrev s_count_of_cuts : Stmt := top 14
abbrev s_first_cut : Stmt := top 15
abbrev s_fair_kinds : Stmt := top 16
abbrev s_partners_of : Stmt := top 19
abbrev s_Roster_init : Stmt := inClass (top 20) 0
abbrev s_Roster_take : Stmt := inClass (top 20) 1
abbrev s_Roster_is_full : Stmt := inClass (top 20) 2
abbrev s_Roster_is_exchanged : Stmt := inClass (top 20) 3
abbrev s_Roster_team_at : Stmt := inClass (top 20) 4
abbrev s_Roster_teams_on : Stmt := inClass (top 20) 5
abbrev s_Roster_hours_between : Stmt := inClass (top 20) 6
abbrev s_Roster_stands_twice_at : Stmt := inClass (top 20) 7
abbrev s_Roster_somebody_stands_twice : Stmt := inClass (top 20) 8
abbrev s_answer_who : Stmt := top 44
abbrev s_answer_day : Stmt := top 45
abbrev s_answer_round : Stmt := top 46
abbrev s_answer_even : Stmt := top 47
abbrev s_answer_hours : Stmt := top 48
abbrev s_answer_rests : Stmt := top 49
abbrev s_is_watch_of : Stmt := top 50
abbrev s_answer_comes : Stmt := top 51
abbrev s_answer_cuts : Stmt := top 52
abbrev s_answer_kinds : Stmt := top 53
abbrev s_answer_swap : Stmt := top 54
abbrev s_answer_undo : Stmt := top 55
abbrev s_answer_change : Stmt := top 56
abbrev s_answer_swaps : Stmt := top 57
abbrev s_answer_of : Stmt := top 58
abbrev s_answer_of_turn : Stmt := top 59
abbrev s_end_of_call : Stmt := top 60
abbrev s_roster_of : Stmt := top 61
abbrev s_answers : Stmt := top 62
structure Txt (K : PySem.W.Frag) (mg : Str → Option Value) (CShip : Addr) (CRoster : Addr) : Prop where
  clShip : Cls K CShip
  gShip : mg "Ship" = some (.ref CShip)
  nShip_teams : NoAttr K CShip "teams"
  nShip_first : NoAttr K CShip "first"
  nShip_lengths : NoAttr K CShip "lengths"
  clRoster : Cls K CRoster
  gRoster : mg "Roster" = some (.ref CRoster)
  nRoster_ship : NoAttr K CRoster "ship"
  nRoster_exchanges : NoAttr K CRoster "exchanges"
  nRoster_partners : NoAttr K CRoster "partners"
  z_any : mg "any" = none
  z_len : mg "len" = none
  z_list : mg "list" = none
  z_max : mg "max" = none
  z_min : mg "min" = none
  z_range : mg "range" = none
  z_sum : mg "sum" = none
  c_DAY_HOURS : ∃ t, mg "DAY_HOURS" = some (.int 24 t)
  c_FEWEST_TEAMS : ∃ t, mg "FEWEST_TEAMS" = some (.int 2 t)
  c_MOST_TEAMS : ∃ t, mg "MOST_TEAMS" = some (.int 5 t)
  c_FEWEST_WATCHES : ∃ t, mg "FEWEST_WATCHES" = some (.int 2 t)
  c_MOST_WATCHES : ∃ t, mg "MOST_WATCHES" = some (.int 8 t)
  c_MOST_EXCHANGES : ∃ t, mg "MOST_EXCHANGES" = some (.int 6 t)
  c_LAST_DAY : ∃ t, mg "LAST_DAY" = some (.int 200 t)
  c_NOT_AS_TOLD : ∃ t, mg "NOT_AS_TOLD" = some (.int (-1) t)
  c_NOT_THERE : ∃ t, mg "NOT_THERE" = some (.int (-2) t)
  c_SAME_TEAM : ∃ t, mg "SAME_TEAM" = some (.int (-3) t)
  c_EXCHANGED_ALREADY : ∃ t, mg "EXCHANGED_ALREADY" = some (.int (-4) t)
  c_ALL_EXCHANGES_STAND : ∃ t, mg "ALL_EXCHANGES_STAND" = some (.int (-5) t)
  c_NEVER : ∃ t, mg "NEVER" = some (.int (-6) t)
  c_TWO_RUNNING : ∃ t, mg "TWO_RUNNING" = some (.int (-7) t)
  c_NO_SHIP : ∃ t, mg "NO_SHIP" = some (.int (-9) t)
  c_BEGIN : ∃ t, mg "BEGIN" = some (.int 0 t)
  c_WHO : ∃ t, mg "WHO" = some (.int 1 t)
  c_DAY : ∃ t, mg "DAY" = some (.int 2 t)
  c_ROUND : ∃ t, mg "ROUND" = some (.int 3 t)
  c_EVEN : ∃ t, mg "EVEN" = some (.int 4 t)
  c_HOURS : ∃ t, mg "HOURS" = some (.int 5 t)
  c_RESTS : ∃ t, mg "RESTS" = some (.int 6 t)
  c_CUTS : ∃ t, mg "CUTS" = some (.int 8 t)
  c_KINDS : ∃ t, mg "KINDS" = some (.int 9 t)
  c_SWAP : ∃ t, mg "SWAP" = some (.int 10 t)
  c_UNDO : ∃ t, mg "UNDO" = some (.int 11 t)
  c_SWAPS : ∃ t, mg "SWAPS" = some (.int 12 t)
  t_ARGUMENTS : ∃ p, mg "ARGUMENTS" = some (.ref p) ∧ ∀ H, SqT K H p ([3, 2, 1, 0, 0, 3, 1, 3, 3, 1, 4, 1, 0].map V.int)
/-- a def of the text, a method, a class's __init__, where they stand behind the top -/
def FnAt (K : PySem.W.Frag) (mg : Str → Option Value) (x : Str) (st : Stmt) (ps : List Str) : Prop := ∃ (f : Addr) (fd : FuncData), Fun K x x st f fd ∧ Binds K fd ps [] ∧ mg x = some (.ref f) ∧ PySem.W.keepIn K (.ref f) = true
def MeAt (K : PySem.W.Frag) (C : Addr) (m qual : Str) (st : Stmt) (ps : List Str) : Prop := ∃ (f : Addr) (fd : FuncData), Fun K m qual st f fd ∧ Binds K fd ps [] ∧ Meth K C m f
def MkAt (K : PySem.W.Frag) (C : Addr) (qual : Str) (st : Stmt) (ps : List Str) : Prop := ∃ (f : Addr) (fd : FuncData), Fun K "__init__" qual st f fd ∧ Binds K fd ps [] ∧ Mk K C f
structure Top (K : PySem.W.Frag) (mg : Str → Option Value) (CShip : Addr) (CRoster : Addr) : Prop where
  T : Txt K mg CShip CRoster
  f_may_be_teams : FnAt K mg "may_be_teams" s_may_be_teams ["teams"]
  f_may_be_watches : FnAt K mg "may_be_watches" s_may_be_watches ["watches"]
  f_may_be_ship : FnAt K mg "may_be_ship" s_may_be_ship ["teams", "first", "lengths"]
  f_days_of_round : FnAt K mg "days_of_round" s_days_of_round ["teams", "watches"]
  f_makes_fair_turn : FnAt K mg "makes_fair_turn" s_makes_fair_turn ["teams", "watches"]
  mk_Ship : MkAt K CShip "Ship.__init__" s_Ship_init ["self", "teams", "first", "lengths"]
  m_Ship_watches : MeAt K CShip "watches" "Ship.watches" s_Ship_watches ["self"]
  m_Ship_has_team : MeAt K CShip "has_team" "Ship.has_team" s_Ship_has_team ["self", "team"]
  m_Ship_has_watch : MeAt K CShip "has_watch" "Ship.has_watch" s_Ship_has_watch ["self", "watch"]
  m_Ship_place_of : MeAt K CShip "place_of" "Ship.place_of" s_Ship_place_of ["self", "day", "watch"]
  m_Ship_day_and_watch : MeAt K CShip "day_and_watch" "Ship.day_and_watch" s_Ship_day_and_watch ["self", "place"]
  m_Ship_length_at : MeAt K CShip "length_at" "Ship.length_at" s_Ship_length_at ["self", "place"]
  m_Ship_turn_at : MeAt K CShip "turn_at" "Ship.turn_at" s_Ship_turn_at ["self", "place"]
  m_Ship_round_days : MeAt K CShip "round_days" "Ship.round_days" s_Ship_round_days ["self"]
  m_Ship_is_fair : MeAt K CShip "is_fair" "Ship.is_fair" s_Ship_is_fair ["self"]
  m_Ship_places_in_round : MeAt K CShip "places_in_round" "Ship.places_in_round" s_Ship_places_in_round ["self", "team"]
  m_Ship_hours_in_round : MeAt K CShip "hours_in_round" "Ship.hours_in_round" s_Ship_hours_in_round ["self", "team"]
  m_Ship_rest_behind : MeAt K CShip "rest_behind" "Ship.rest_behind" s_Ship_rest_behind ["self", "place"]
  m_Ship_rests_of : MeAt K CShip "rests_of" "Ship.rests_of" s_Ship_rests_of ["self", "team"]
  m_Ship_day_it_comes : MeAt K CShip "day_it_comes" "Ship.day_it_comes" s_Ship_day_it_comes ["self", "team", "watch", "day"]
  f_ways_with_one_more : FnAt K mg "ways_with_one_more" s_ways_with_one_more ["ways", "hours", "least", "most"]
  f_count_of_cuts : FnAt K mg "count_of_cuts" s_count_of_cuts ["watches", "least", "most"]
  f_first_cut : FnAt K mg "first_cut" s_first_cut ["watches", "least", "most"]
  f_fair_kinds : FnAt K mg "fair_kinds" s_fair_kinds ["teams"]
  f_partners_of : FnAt K mg "partners_of" s_partners_of ["exchanges"]
  mk_Roster : MkAt K CRoster "Roster.__init__" s_Roster_init ["self", "ship", "exchanges"]
  m_Roster_take : MeAt K CRoster "take" "Roster.take" s_Roster_take ["self", "exchanges"]
  m_Roster_is_full : MeAt K CRoster "is_full" "Roster.is_full" s_Roster_is_full ["self"]
  m_Roster_is_exchanged : MeAt K CRoster "is_exchanged" "Roster.is_exchanged" s_Roster_is_exchanged ["self", "place"]
  m_Roster_team_at : MeAt K CRoster "team_at" "Roster.team_at" s_Roster_team_at ["self", "place"]
  m_Roster_teams_on : MeAt K CRoster "teams_on" "Roster.teams_on" s_Roster_teams_on ["self", "day"]
  m_Roster_hours_between : MeAt K CRoster "hours_between" "Roster.hours_between" s_Roster_hours_between ["self", "team", "begin_day", "end_day"]
  m_Roster_stands_twice_at : MeAt K CRoster "stands_twice_at" "Roster.stands_twice_at" s_Roster_stands_twice_at ["self", "place"]
  m_Roster_somebody_stands_twice : MeAt K CRoster "somebody_stands_twice" "Roster.somebody_stands_twice" s_Roster_somebody_stands_twice ["self"]
  f_answer_who : FnAt K mg "answer_who" s_answer_who ["roster", "day", "hour"]
  f_answer_day : FnAt K mg "answer_day" s_answer_day ["roster", "day"]
  f_answer_round : FnAt K mg "answer_round" s_answer_round ["ship"]
  f_answer_even : FnAt K mg "answer_even" s_answer_even ["ship"]
  f_answer_hours : FnAt K mg "answer_hours" s_answer_hours ["roster", "team", "begin_day", "end_day"]
  f_answer_rests : FnAt K mg "answer_rests" s_answer_rests ["ship", "team"]
  f_is_watch_of : FnAt K mg "is_watch_of" s_is_watch_of ["ship", "day", "watch"]
  f_answer_comes : FnAt K mg "answer_comes" s_answer_comes ["ship", "team", "watch", "day"]
  f_answer_cuts : FnAt K mg "answer_cuts" s_answer_cuts ["watches", "least", "most"]
  f_answer_kinds : FnAt K mg "answer_kinds" s_answer_kinds ["teams"]
  f_answer_swap : FnAt K mg "answer_swap" s_answer_swap ["roster", "numbers"]
  f_answer_undo : FnAt K mg "answer_undo" s_answer_undo ["roster", "number"]
  f_answer_change : FnAt K mg "answer_change" s_answer_change ["roster", "exchanges", "answer"]
  f_answer_swaps : FnAt K mg "answer_swaps" s_answer_swaps ["roster"]
  f_answer_of : FnAt K mg "answer_of" s_answer_of ["roster", "number", "numbers"]
  f_answer_of_turn : FnAt K mg "answer_of_turn" s_answer_of_turn ["ship", "number", "numbers"]
  f_end_of_call : FnAt K mg "end_of_call" s_end_of_call ["calls", "start"]
  f_roster_of : FnAt K mg "roster_of" s_roster_of ["numbers"]
  f_answers : FnAt K mg "answers" s_answers ["calls"]
theorem sc_may_be_teams : FnScope ["teams"] ["teams"] (defScope s_may_be_teams) := ⟨rfl, rfl, rfl, by decide +kernel, rfl, by decide +kernel, by decide +kernel⟩
theorem sc_may_be_watches : FnScope ["watches"] ["watches"] (defScope s_may_be_watches) := ⟨rfl, rfl, rfl, by decide +kernel, rfl, by decide +kernel, by decide +kernel⟩
theorem sc_may_be_ship : FnScope ["teams", "first", "lengths"] ["teams", "first", "lengths"] (defScope s_may_be_ship) := ⟨rfl, rfl, rfl, by decide +kernel, rfl, by decide +kernel, by decide +kernel⟩
theorem sc_days_of_round : FnScope ["teams", "watches", "days"] ["teams", "watches"] (defScope s_days_of_round) := ⟨rfl, rfl, rfl, by decide +kernel, rfl, by decide +kernel, by decide +kernel⟩
theorem sc_makes_fair_turn : FnScope ["teams", "watches"] ["teams", "watches"] (defScope s_makes_fair_turn) := ⟨rfl, rfl, rfl, by decide +kernel, rfl, by decide +kernel, by decide +kernel⟩
theorem sc_Ship_init : FnScope ["self", "teams", "first", "lengths"] ["self", "teams", "first", "lengths"] (defScope s_Ship_init) := ⟨rfl, rfl, rfl, by decide +kernel, rfl, by decide +kernel, by decide +kernel⟩
theorem sc_Ship_watches : FnScope ["self"] ["self"] (defScope s_Ship_watches) := ⟨rfl, rfl, rfl, by decide +kernel, rfl, by decide +kernel, by decide +kernel⟩
theorem sc_Ship_has_team : FnScope ["self", "team"] ["self", "team"] (defScope s_Ship_has_team) := ⟨rfl, rfl, rfl, by decide +kernel, rfl, by decide +kernel, by decide +kernel⟩
theorem sc_Ship_has_watch : FnScope ["self", "watch"] ["self", "watch"] (defScope s_Ship_has_watch) := ⟨rfl, rfl, rfl, by decide +kernel, rfl, by decide +kernel, by decide +kernel⟩
theorem sc_Ship_place_of : FnScope ["self", "day", "watch"] ["self", "day", "watch"] (defScope s_Ship_place_of) := ⟨rfl, rfl, rfl, by decide +kernel, rfl, by decide +kernel, by decide +kernel⟩
theorem sc_Ship_day_and_watch : FnScope ["self", "place"] ["self", "place"] (defScope s_Ship_day_and_watch) := ⟨rfl, rfl, rfl, by decide +kernel, rfl, by decide +kernel, by decide +kernel⟩
theorem sc_Ship_length_at : FnScope ["self", "place"] ["self", "place"] (defScope s_Ship_length_at) := ⟨rfl, rfl, rfl, by decide +kernel, rfl, by decide +kernel, by decide +kernel⟩
theorem sc_Ship_turn_at : FnScope ["self", "place"] ["self", "place"] (defScope s_Ship_turn_at) := ⟨rfl, rfl, rfl, by decide +kernel, rfl, by decide +kernel, by decide +kernel⟩
theorem sc_Ship_round_days : FnScope ["self"] ["self"] (defScope s_Ship_round_days) := ⟨rfl, rfl, rfl, by decide +kernel, rfl, by decide +kernel, by decide +kernel⟩
theorem sc_Ship_is_fair : FnScope ["self"] ["self"] (defScope s_Ship_is_fair) := ⟨rfl, rfl, rfl, by decide +kernel, rfl, by decide +kernel, by decide +kernel⟩
theorem sc_Ship_places_in_round : FnScope ["self", "team", "end", "place"] ["self", "team"] (defScope s_Ship_places_in_round) := ⟨rfl, rfl, rfl, by decide +kernel, rfl, by decide +kernel, by decide +kernel⟩
theorem sc_Ship_hours_in_round : FnScope ["self", "team", "place"] ["self", "team"] (defScope s_Ship_hours_in_round) := ⟨rfl, rfl, rfl, by decide +kernel, rfl, by decide +kernel, by decide +kernel⟩
theorem sc_Ship_rest_behind : FnScope ["self", "place", "step"] ["self", "place"] (defScope s_Ship_rest_behind) := ⟨rfl, rfl, rfl, by decide +kernel, rfl, by decide +kernel, by decide +kernel⟩
theorem sc_Ship_rests_of : FnScope ["self", "team", "place"] ["self", "team"] (defScope s_Ship_rests_of) := ⟨rfl, rfl, rfl, by decide +kernel, rfl, by decide +kernel, by decide +kernel⟩
theorem sc_Ship_day_it_comes : FnScope ["self", "team", "watch", "day", "later"] ["self", "team", "watch", "day"] (defScope s_Ship_day_it_comes) := ⟨rfl, rfl, rfl, by decide +kernel, rfl, by decide +kernel, by decide +kernel⟩
theorem sc_ways_with_one_more : FnScope ["ways", "hours", "least", "most", "length"] ["ways", "hours", "least", "most"] (defScope s_ways_with_one_more) := ⟨rfl, rfl, rfl, by decide +kernel, rfl, by decide +kernel, by decide +kernel⟩
theorem sc_count_of_cuts : FnScope ["watches", "least", "most", "ways", "done", "hours"] ["watches", "least", "most"] (defScope s_count_of_cuts) := ⟨rfl, rfl, rfl, by decide +kernel, rfl, by decide +kernel, by decide +kernel⟩
theorem sc_first_cut : FnScope ["watches", "least", "most", "cut", "left", "behind", "length"] ["watches", "least", "most"] (defScope s_first_cut) := ⟨rfl, rfl, rfl, by decide +kernel, rfl, by decide +kernel, by decide +kernel⟩
theorem sc_fair_kinds : FnScope ["teams", "watches"] ["teams"] (defScope s_fair_kinds) := ⟨rfl, rfl, rfl, by decide +kernel, rfl, by decide +kernel, by decide +kernel⟩
theorem sc_partners_of : FnScope ["exchanges", "partners", "pair"] ["exchanges"] (defScope s_partners_of) := ⟨rfl, rfl, rfl, by decide +kernel, rfl, by decide +kernel, by decide +kernel⟩
theorem sc_Roster_init : FnScope ["self", "ship", "exchanges"] ["self", "ship", "exchanges"] (defScope s_Roster_init) := ⟨rfl, rfl, rfl, by decide +kernel, rfl, by decide +kernel, by decide +kernel⟩
theorem sc_Roster_take : FnScope ["self", "exchanges"] ["self", "exchanges"] (defScope s_Roster_take) := ⟨rfl, rfl, rfl, by decide +kernel, rfl, by decide +kernel, by decide +kernel⟩
theorem sc_Roster_is_full : FnScope ["self"] ["self"] (defScope s_Roster_is_full) := ⟨rfl, rfl, rfl, by decide +kernel, rfl, by decide +kernel, by decide +kernel⟩
theorem sc_Roster_is_exchanged : FnScope ["self", "place"] ["self", "place"] (defScope s_Roster_is_exchanged) := ⟨rfl, rfl, rfl, by decide +kernel, rfl, by decide +kernel, by decide +kernel⟩
theorem sc_Roster_team_at : FnScope ["self", "place"] ["self", "place"] (defScope s_Roster_team_at) := ⟨rfl, rfl, rfl, by decide +kernel, rfl, by decide +kernel, by decide +kernel⟩
theorem sc_Roster_teams_on : FnScope ["self", "day", "watch"] ["self", "day"] (defScope s_Roster_teams_on) := ⟨rfl, rfl, rfl, by decide +kernel, rfl, by decide +kernel, by decide +kernel⟩
theorem sc_Roster_hours_between : FnScope ["self", "team", "begin_day", "end_day", "begin", "end", "place"] ["self", "team", "begin_day", "end_day"] (defScope s_Roster_hours_between) := ⟨rfl, rfl, rfl, by decide +kernel, rfl, by decide +kernel, by decide +kernel⟩
theorem sc_Roster_stands_twice_at : FnScope ["self", "place", "team"] ["self", "place"] (defScope s_Roster_stands_twice_at) := ⟨rfl, rfl, rfl, by decide +kernel, rfl, by decide +kernel, by decide +kernel⟩
theorem sc_Roster_somebody_stands_twice : FnScope ["self", "place"] ["self"] (defScope s_Roster_somebody_stands_twice) := ⟨rfl, rfl, rfl, by decide +kernel, rfl, by decide +kernel, by decide +kernel⟩
theorem sc_answer_who : FnScope ["roster", "day", "hour", "ship", "watch", "end"] ["roster", "day", "hour"] (defScope s_answer_who) := ⟨rfl, rfl, rfl, by decide +kernel, rfl, by decide +kernel, by decide +kernel⟩
theorem sc_answer_day : FnScope ["roster", "day"] ["roster", "day"] (defScope s_answer_day) := ⟨rfl, rfl, rfl, by decide +kernel, rfl, by decide +kernel, by decide +kernel⟩
theorem sc_answer_round : FnScope ["ship"] ["ship"] (defScope s_answer_round) := ⟨rfl, rfl, rfl, by decide +kernel, rfl, by decide +kernel, by decide +kernel⟩
theorem sc_answer_even : FnScope ["ship", "hours", "team"] ["ship"] (defScope s_answer_even) := ⟨rfl, rfl, rfl, by decide +kernel, rfl, by decide +kernel, by decide +kernel⟩
theorem sc_answer_hours : FnScope ["roster", "team", "begin_day", "end_day"] ["roster", "team", "begin_day", "end_day"] (defScope s_answer_hours) := ⟨rfl, rfl, rfl, by decide +kernel, rfl, by decide +kernel, by decide +kernel⟩
theorem sc_answer_rests : FnScope ["ship", "team", "rests"] ["ship", "team"] (defScope s_answer_rests) := ⟨rfl, rfl, rfl, by decide +kernel, rfl, by decide +kernel, by decide +kernel⟩
theorem sc_is_watch_of : FnScope ["ship", "day", "watch"] ["ship", "day", "watch"] (defScope s_is_watch_of) := ⟨rfl, rfl, rfl, by decide +kernel, rfl, by decide +kernel, by decide +kernel⟩
theorem sc_answer_comes : FnScope ["ship", "team", "watch", "day", "found"] ["ship", "team", "watch", "day"] (defScope s_answer_comes) := ⟨rfl, rfl, rfl, by decide +kernel, rfl, by decide +kernel, by decide +kernel⟩
theorem sc_answer_cuts : FnScope ["watches", "least", "most", "count"] ["watches", "least", "most"] (defScope s_answer_cuts) := ⟨rfl, rfl, rfl, by decide +kernel, rfl, by decide +kernel, by decide +kernel⟩
theorem sc_answer_kinds : FnScope ["teams", "kinds"] ["teams"] (defScope s_answer_kinds) := ⟨rfl, rfl, rfl, by decide +kernel, rfl, by decide +kernel, by decide +kernel⟩
theorem sc_answer_swap : FnScope ["roster", "numbers", "ship", "place", "other", "number", "exchanges"] ["roster", "numbers"] (defScope s_answer_swap) := ⟨rfl, rfl, rfl, by decide +kernel, rfl, by decide +kernel, by decide +kernel⟩
theorem sc_answer_undo : FnScope ["roster", "number", "exchanges"] ["roster", "number"] (defScope s_answer_undo) := ⟨rfl, rfl, rfl, by decide +kernel, rfl, by decide +kernel, by decide +kernel⟩
theorem sc_answer_change : FnScope ["roster", "exchanges", "answer"] ["roster", "exchanges", "answer"] (defScope s_answer_change) := ⟨rfl, rfl, rfl, by decide +kernel, rfl, by decide +kernel, by decide +kernel⟩
theorem sc_answer_swaps : FnScope ["roster", "told", "pair"] ["roster"] (defScope s_answer_swaps) := ⟨rfl, rfl, rfl, by decide +kernel, rfl, by decide +kernel, by decide +kernel⟩
theorem sc_answer_of : FnScope ["roster", "number", "numbers"] ["roster", "number", "numbers"] (defScope s_answer_of) := ⟨rfl, rfl, rfl, by decide +kernel, rfl, by decide +kernel, by decide +kernel⟩
theorem sc_answer_of_turn : FnScope ["ship", "number", "numbers"] ["ship", "number", "numbers"] (defScope s_answer_of_turn) := ⟨rfl, rfl, rfl, by decide +kernel, rfl, by decide +kernel, by decide +kernel⟩
theorem sc_end_of_call : FnScope ["calls", "start", "end"] ["calls", "start"] (defScope s_end_of_call) := ⟨rfl, rfl, rfl, by decide +kernel, rfl, by decide +kernel, by decide +kernel⟩
theorem sc_roster_of : FnScope ["numbers", "teams", "first", "lengths"] ["numbers"] (defScope s_roster_of) := ⟨rfl, rfl, rfl, by decide +kernel, rfl, by decide +kernel, by decide +kernel⟩
theorem sc_answers : FnScope ["calls", "roster", "told", "start", "end", "numbers", "begun", "answer"] ["calls"] (defScope s_answers) := ⟨rfl, rfl, rfl, by decide +kernel, rfl, by decide +kernel, by decide +kernel⟩
end Sw

/-! Exchanges: who stands, and that nobody stands twice. Plain Lean. -/
namespace Sw
open Mu43 (State partner who tired exchanged)
def flat (l : List (Nat × Nat)) : List Nat := l.flatMap fun x => [x.1, x.2]
theorem mem_flat {l : List (Nat × Nat)} {g : Nat} : g ∈ flat l ↔ ∃ x ∈ l, x.1 = g ∨ x.2 = g := by
  unfold flat
  rw [List.mem_flatMap]
  constructor
  · rintro ⟨x, hx, h⟩
    refine ⟨x, hx, ?_⟩
    simp at h
    rcases h with h | h
    · exact .inl h.symm
    · exact .inr h.symm
  · rintro ⟨x, hx, h⟩
    refine ⟨x, hx, ?_⟩
    rcases h with h | h <;> simp [h]
theorem exchanged_iff {s : State} {g : Nat} : exchanged s g = true ↔ g ∈ flat s.swaps := by
  unfold exchanged
  rw [mem_flat, List.any_eq_true]
  constructor
  · rintro ⟨x, hx, h⟩
    refine ⟨x, hx, ?_⟩
    simpa using h
  · rintro ⟨x, hx, h⟩
    refine ⟨x, hx, ?_⟩
    simpa using h
theorem flat_app (a b : List (Nat × Nat)) : flat (a ++ b) = flat a ++ flat b := by
  unfold flat
  rw [List.flatMap_append]
theorem flat_len (l : List (Nat × Nat)) : (flat l).length = 2 * l.length := by
  induction l with
  | nil => rfl
  | cons x l ih =>
    show ([x.1, x.2] ++ flat l).length = _
    rw [List.length_append, ih, List.length_cons]
    simp
    omega
/-- what holds of every ship at hand -/
structure OkS (s : State) : Prop where
  t : OkT s.turn
  few : s.swaps.length ≤ 6
  nd : (flat s.swaps).Nodup
  apart : ∀ g, who s g ≠ who s (g + 1)
theorem partner_out {l : List (Nat × Nat)} {g : Nat} (h : g ∉ flat l) : partner l g = g := by
  unfold partner
  have e : l.find? (fun (x : Nat × Nat) => x.1 == g || x.2 == g) = none := by
    rw [List.find?_eq_none]
    intro x hx q
    exact h (mem_flat.mpr ⟨x, hx, by simpa using q⟩)
  rw [e]
theorem turn_apart {t : Mu43.Turn} (O : OkT t) (g : Nat) : Mu43.turn t g ≠ Mu43.turn t (g + 1) := by
  unfold Mu43.turn
  have t2 := O.t2
  intro e
  have hT : 0 < t.teams := by omega
  have h1 := Nat.mod_lt (t.first + g) hT
  have h2 : (t.first + (g + 1)) % t.teams = ((t.first + g) % t.teams + 1) % t.teams := by
    rw [← Nat.add_assoc, Nat.add_mod (t.first + g) 1, Nat.mod_eq_of_lt (show 1 < t.teams by omega)]
  rw [h2] at e
  rcases Nat.lt_or_ge ((t.first + g) % t.teams + 1) t.teams with c | c
  · rw [Nat.mod_eq_of_lt c] at e
    omega
  · have ee : (t.first + g) % t.teams + 1 = t.teams := by omega
    rw [ee, Nat.mod_self] at e
    omega
theorem tired_iff {s : State} {g : Nat} : tired s g = true ↔ who s g = who s (g + 1) ∨ (g ≠ 0 ∧ who s (g - 1) = who s g) := by
  unfold tired
  simp
/-- two watches of one team, one behind the other -/
def Twice (s : State) : Prop := ∃ g, who s g = who s (g + 1)
theorem tired_twice {s : State} {g : Nat} (h : tired s g = true) : Twice s := by
  rcases tired_iff.mp h with h | ⟨h0, h⟩
  · exact ⟨g, h⟩
  · refine ⟨g - 1, ?_⟩
    rw [h, show g - 1 + 1 = g by omega]
theorem twice_tired {s : State} {g : Nat} (h : who s g = who s (g + 1)) : tired s g = true ∧ tired s (g + 1) = true := by
  refine ⟨tired_iff.mpr (.inl h), tired_iff.mpr (.inr ⟨by omega, ?_⟩)⟩
  rw [show g + 1 - 1 = g by omega]
  exact h
theorem any_tired {s : State} (O : OkT s.turn) : ((flat s.swaps).any fun g => tired s g) = true ↔ Twice s := by
  rw [List.any_eq_true]
  constructor
  · rintro ⟨g, _, h⟩
    exact tired_twice h
  · rintro ⟨g, h⟩
    obtain ⟨h1, h2⟩ := twice_tired h
    by_cases c1 : g ∈ flat s.swaps
    · exact ⟨g, c1, h1⟩
    by_cases c2 : g + 1 ∈ flat s.swaps
    · exact ⟨g + 1, c2, h2⟩
    exfalso
    unfold who at h
    rw [partner_out c1, partner_out c2] at h
    exact turn_apart O g h
theorem two_tired {s t : State} {a b : Nat} (ap : ∀ g, who s g ≠ who s (g + 1)) (same : ∀ k, k ≠ a → k ≠ b → who t k = who s k) : (tired t a = true ∨ tired t b = true) ↔ Twice t := by
  constructor
  · rintro (h | h) <;> exact tired_twice h
  · rintro ⟨g, h⟩
    obtain ⟨h1, h2⟩ := twice_tired h
    by_cases c1 : g = a
    · exact .inl (c1 ▸ h1)
    by_cases c2 : g = b
    · exact .inr (c2 ▸ h1)
    by_cases c3 : g + 1 = a
    · exact .inl (c3 ▸ h2)
    by_cases c4 : g + 1 = b
    · exact .inr (c4 ▸ h2)
    exfalso
    rw [same g c1 c2, same (g + 1) c3 c4] at h
    exact ap g h
theorem partner_snoc {l : List (Nat × Nat)} {g h k : Nat} (h1 : k ≠ g) (h2 : k ≠ h) : partner (l ++ [(g, h)]) k = partner l k := by
  unfold partner
  rw [List.find?_append]
  have e : ([(g, h)] : List (Nat × Nat)).find? (fun (x : Nat × Nat) => x.1 == k || x.2 == k) = none := by
    rw [List.find?_eq_none]
    intro x hx q
    have ex : x = (g, h) := by simpa using hx
    subst ex
    simp at q
    rcases q with q | q
    · exact h1 q.symm
    · exact h2 q.symm
  rw [e, Option.or_none]
theorem find_erase {α : Type} {p : α → Bool} : ∀ {l : List α} {i : Nat} {x : α}, l[i]? = some x → p x = false → (l.eraseIdx i).find? p = l.find? p
  | [], i, x, h, _ => by simp at h
  | y :: l, 0, x, h, hp => by
    have e : y = x := by simpa using h
    subst e
    rw [List.eraseIdx_cons_zero, List.find?_cons, hp]
  | y :: l, i + 1, x, h, hp => by
    rw [List.eraseIdx_cons_succ, List.find?_cons, List.find?_cons, find_erase (by simpa using h) hp]
theorem partner_erase {l : List (Nat × Nat)} {i k : Nat} {x : Nat × Nat} (hx : l[i]? = some x) (h1 : k ≠ x.1) (h2 : k ≠ x.2) : partner (l.eraseIdx i) k = partner l k := by
  unfold partner
  rw [find_erase hx]
  cases hb : (x.1 == k || x.2 == k) with
  | false => rfl
  | true =>
    simp at hb
    rcases hb with q | q
    · exact absurd q.symm h1
    · exact absurd q.symm h2
theorem flat_erase : ∀ (l : List (Nat × Nat)) (i : Nat), (flat (l.eraseIdx i)).Sublist (flat l)
  | [], i => by simp [flat]
  | y :: l, 0 => by
    rw [List.eraseIdx_cons_zero]
    show (flat l).Sublist ([y.1, y.2] ++ flat l)
    exact List.sublist_append_right _ _
  | y :: l, i + 1 => by
    rw [List.eraseIdx_cons_succ]
    show ([y.1, y.2] ++ flat (l.eraseIdx i)).Sublist ([y.1, y.2] ++ flat l)
    exact (List.append_sublist_append_left _).mpr (flat_erase l i)
theorem not_exch {s : State} {g : Nat} (h : exchanged s g = false) : g ∉ flat s.swaps := fun m => by
  rw [exchanged_iff.mpr m] at h
  cases h
/-- one more exchange -/
theorem nd_snoc {s : State} {g h : Nat} (O : OkS s) (hg : exchanged s g = false) (hh : exchanged s h = false) (hw : who s g ≠ who s h) : (flat (s.swaps ++ [(g, h)])).Nodup := by
  rw [flat_app]
  have e : flat [(g, h)] = [g, h] := rfl
  rw [e, List.nodup_append]
  have hgh : g ≠ h := fun q => hw (by rw [q])
  refine ⟨O.nd, by simp [hgh], ?_⟩
  intro a ha b hb q
  subst q
  rcases List.mem_cons.mp hb with q | q
  · exact not_exch hg (q ▸ ha)
  · have q2 : a = h := by simpa using q
    exact not_exch hh (q2 ▸ ha)
theorem twice_snoc {s : State} {g h : Nat} (O : OkS s) : (tired { s with swaps := s.swaps ++ [(g, h)] } g = true ∨ tired { s with swaps := s.swaps ++ [(g, h)] } h = true) ↔ Twice { s with swaps := s.swaps ++ [(g, h)] } := by
  refine two_tired O.apart fun k h1 h2 => ?_
  show Mu43.turn s.turn (partner (s.swaps ++ [(g, h)]) k) = Mu43.turn s.turn (partner s.swaps k)
  rw [partner_snoc h1 h2]
theorem twice_erase {s : State} {i : Nat} (O : OkS s) (hi : i < s.swaps.length) : (tired { s with swaps := s.swaps.eraseIdx i } (s.swaps.getD i (0, 0)).1 = true ∨ tired { s with swaps := s.swaps.eraseIdx i } (s.swaps.getD i (0, 0)).2 = true) ↔ Twice { s with swaps := s.swaps.eraseIdx i } := by
  have hx : s.swaps[i]? = some (s.swaps.getD i (0, 0)) := by
    rw [List.getD_eq_getElem?_getD, List.getElem?_eq_getElem hi]
    rfl
  refine two_tired O.apart fun k h1 h2 => ?_
  show Mu43.turn s.turn (partner (s.swaps.eraseIdx i) k) = Mu43.turn s.turn (partner s.swaps k)
  rw [partner_erase hx h1 h2]
theorem okS_new {t : Mu43.Turn} (O : OkT t) : OkS ⟨t, []⟩ := ⟨O, Nat.zero_le _, List.nodup_nil, fun g => turn_apart O g⟩
/-! ### when a team comes -/
theorem turn_round {t : Mu43.Turn} (O : OkT t) (w d j : Nat) : Mu43.turn t (Mu43.number t (d + j) w) = Mu43.turn t (Mu43.number t (d + j % Mu43.round t) w) := by
  have h := round_facts t.teams (by have := O.t5; omega) t.long.length (by have := O.w8; omega) O.t2 O.w2
  have hR : (Mu43.round t * t.long.length) % t.teams = 0 := h.2.1
  obtain ⟨c, hc⟩ := Nat.dvd_of_mod_eq_zero hR
  have e : Mu43.number t (d + j) w = Mu43.number t (d + j % Mu43.round t) w + t.teams * (c * (j / Mu43.round t)) := by
    unfold Mu43.number Mu43.watches
    have e1 : j = Mu43.round t * (j / Mu43.round t) + j % Mu43.round t := (Nat.div_add_mod j (Mu43.round t)).symm
    have e2 : t.teams * (c * (j / Mu43.round t)) = Mu43.round t * (j / Mu43.round t) * t.long.length := by
      rw [← Nat.mul_assoc, ← hc]
      rw [Nat.mul_assoc, Nat.mul_assoc, Nat.mul_comm t.long.length]
    rw [e2]
    conv => lhs; rw [e1]
    rw [Nat.add_mul, Nat.add_mul, Nat.add_mul]
    omega
  rw [e]
  unfold Mu43.turn
  rw [← Nat.add_assoc, Nat.add_mul_mod_self_left]
theorem comes_none {t : Mu43.Turn} (O : OkT t) {q w d : Nat} (h : ∀ j, j < Mu43.round t → Mu43.turn t (Mu43.number t (d + j) w) ≠ q) : Mu43.comes t q w d = none := by
  have hr := round_facts t.teams (by have := O.t5; omega) t.long.length (by have := O.w8; omega) O.t2 O.w2
  have hR1 : 1 ≤ Mu43.round t := hr.1.1
  unfold Mu43.comes
  rw [Option.map_eq_none_iff, List.find?_eq_none]
  intro j _ e
  have e2 : Mu43.turn t (Mu43.number t (d + j) w) = q := by simpa using e
  rw [turn_round O] at e2
  exact h _ (Nat.mod_lt _ hR1) e2
theorem comes_some {t : Mu43.Turn} (O : OkT t) {q w d j : Nat} (hj : j < Mu43.round t) (h : ∀ i, i < j → Mu43.turn t (Mu43.number t (d + i) w) ≠ q) (e : Mu43.turn t (Mu43.number t (d + j) w) = q) : Mu43.comes t q w d = some (d + j) := by
  have hr := round_facts t.teams (by have := O.t5; omega) t.long.length (by have := O.w8; omega) O.t2 O.w2
  have hR2 : Mu43.round t ≤ t.teams := hr.1.2
  unfold Mu43.comes
  have e2 : (List.range t.teams).find? (fun (i : Nat) => Mu43.turn t (Mu43.number t (d + i) w) == q) = some j := by
    rw [List.find?_range_eq_some]
    refine ⟨by simpa using e, List.mem_range.mpr (by omega), fun i hi => ?_⟩
    have := h i hi
    simpa using this
  rw [e2]
  rfl
end Sw

/-! Ways to cut a day. Plain Lean. -/
namespace Sw
theorem sum_between (lo up : Nat) (g : Nat → Nat) : ∀ N, ((List.range N).map fun x => if lo ≤ x ∧ x < up then g x else 0).sum = ((List.range (min up N - lo)).map fun i => g (lo + i)).sum
  | 0 => by simp
  | N + 1 => by
    rw [List.range_succ, List.map_append, List.sum_append, sum_between lo up g N]
    simp only [List.map_cons, List.map_nil, List.sum_cons, List.sum_nil, Nat.add_zero]
    by_cases c : lo ≤ N ∧ N < up
    · rw [if_pos c, show min up (N + 1) - lo = (min up N - lo) + 1 by omega, List.range_succ, List.map_append, List.sum_append]
      simp only [List.map_cons, List.map_nil, List.sum_cons, List.sum_nil, Nat.add_zero]
      rw [show lo + (min up N - lo) = N by omega]
    · rw [if_neg c, show min up (N + 1) - lo = min up N - lo by omega, Nat.add_zero]
/-- one row of the table from the one before -/
theorem ways_row {lo hi n : Nat} (v : List Nat) (hn : n ≤ 24) : Mu43.total ((List.range (Mu43.HOURS + 1)).map fun (x : Nat) => if lo ≤ x ∧ (x ≤ hi ∧ x ≤ n) then v.getD (n - x) 0 else 0) = ((List.range (min hi n + 1 - lo)).map fun i => v.getD (n - (lo + i)) 0).sum := by
  rw [total_sum, show Mu43.HOURS + 1 = 25 from rfl]
  have h := sum_between lo (min hi n + 1) (fun x => v.getD (n - x) 0) 25
  rw [show min (min hi n + 1) 25 - lo = min hi n + 1 - lo by omega] at h
  rw [← h]
  refine congrArg List.sum (map_range_congr fun x _ => ?_)
  by_cases c : lo ≤ x ∧ (x ≤ hi ∧ x ≤ n)
  · rw [if_pos c, if_pos (by omega)]
  · rw [if_neg c, if_neg (by omega)]
theorem table_len (lo hi : Nat) : ∀ k, (Mu43.waysTable lo hi k).length = 25
  | 0 => by simp [Mu43.waysTable, Mu43.HOURS]
  | k + 1 => by simp [Mu43.waysTable, Mu43.HOURS]
theorem table_zero (lo hi : Nat) : Mu43.waysTable lo hi 0 = 1 :: List.replicate 24 0 := by
  unfold Mu43.waysTable
  decide +kernel
theorem table_succ (lo hi k : Nat) : Mu43.waysTable lo hi (k + 1) = (List.range 25).map fun n => ((List.range (min hi n + 1 - lo)).map fun i => (Mu43.waysTable lo hi k).getD (n - (lo + i)) 0).sum := by
  show ((List.range (Mu43.HOURS + 1)).map fun (n : Nat) => Mu43.total ((List.range (Mu43.HOURS + 1)).map fun (x : Nat) => if lo ≤ x ∧ (x ≤ hi ∧ x ≤ n) then (Mu43.waysTable lo hi k).getD (n - x) 0 else 0)) = _
  apply map_range_congr
  intro n hn
  exact ways_row _ (by have : n < 25 := hn; omega)
theorem ways_zero (lo hi n : Nat) (hn : n ≤ 24) : Mu43.ways lo hi 0 n = if n = 0 then 1 else 0 := by
  unfold Mu43.ways
  rw [table_zero]
  cases n with
  | zero => rfl
  | succ n =>
    rw [List.getD_cons_succ, List.getD_eq_getElem?_getD, List.getElem?_replicate]
    split <;> rfl
theorem ways_succ (lo hi k n : Nat) (hn : n ≤ 24) : Mu43.ways lo hi (k + 1) n = ((List.range (min hi n + 1 - lo)).map fun i => Mu43.ways lo hi k (n - (lo + i))).sum := by
  unfold Mu43.ways
  rw [table_succ, List.getD_eq_getElem?_getD, List.getElem?_map, List.getElem?_range (by omega)]
  rfl
theorem sum_ne (l : List Nat) : l.sum ≠ 0 ↔ ∃ x ∈ l, x ≠ 0 := by
  induction l with
  | nil => simp
  | cons a l ih =>
    rw [List.sum_cons]
    constructor
    · intro h
      by_cases c : a = 0
      · obtain ⟨x, hx, h2⟩ := ih.mp (by omega)
        exact ⟨x, List.mem_cons_of_mem _ hx, h2⟩
      · exact ⟨a, List.mem_cons_self, c⟩
    · rintro ⟨x, hx, h⟩
      rcases List.mem_cons.mp hx with q | q
      · omega
      · have := ih.mpr ⟨x, q, h⟩
        omega
theorem lo_le {lo hi k n : Nat} (h1 : (k + 1) * lo ≤ n) (h2 : n ≤ (k + 1) * hi) : lo ≤ hi := by
  rcases Nat.lt_or_ge hi lo with c | c
  · have := Nat.mul_lt_mul_of_pos_left c (show 0 < k + 1 by omega)
    omega
  · exact c
theorem pick_ok {lo hi k n : Nat} (h1 : (k + 1) * lo ≤ n) (h2 : n ≤ (k + 1) * hi) : lo ≤ max lo (n - k * hi) ∧ max lo (n - k * hi) ≤ hi ∧ max lo (n - k * hi) ≤ n ∧ k * lo ≤ n - max lo (n - k * hi) ∧ n - max lo (n - k * hi) ≤ k * hi := by
  have hl := lo_le h1 h2
  have hm := Nat.mul_le_mul_left k hl
  rw [Nat.succ_mul] at h1 h2
  omega
theorem ways_ne (lo hi : Nat) : ∀ k n, n ≤ 24 → (Mu43.ways lo hi k n ≠ 0 ↔ k * lo ≤ n ∧ n ≤ k * hi)
  | 0, n, hn => by
    rw [ways_zero lo hi n hn]
    by_cases c : n = 0
    · simp [c]
    · simp [c]
  | k + 1, n, hn => by
    rw [ways_succ lo hi k n hn, sum_ne]
    constructor
    · rintro ⟨x, hx, h⟩
      obtain ⟨i, hi2, rfl⟩ := List.mem_map.mp hx
      have hi3 := List.mem_range.mp hi2
      have q := (ways_ne lo hi k (n - (lo + i)) (by omega)).mp h
      rw [Nat.succ_mul, Nat.succ_mul]
      omega
    · rintro ⟨h1, h2⟩
      obtain ⟨p1, p2, p3, p4, p5⟩ := pick_ok h1 h2
      refine ⟨_, List.mem_map.mpr ⟨max lo (n - k * hi) - lo, List.mem_range.mpr (by omega), rfl⟩, ?_⟩
      rw [show lo + (max lo (n - k * hi) - lo) = max lo (n - k * hi) by omega]
      exact (ways_ne lo hi k _ (by omega)).mpr ⟨p4, p5⟩
/-- the first way's first watch -/
theorem cut_step {lo hi k n : Nat} (hn : n ≤ 24) (h1 : (k + 1) * lo ≤ n) (h2 : n ≤ (k + 1) * hi) : Mu43.cut lo hi (k + 1) n = max lo (n - k * hi) :: Mu43.cut lo hi k (n - max lo (n - k * hi)) := by
  obtain ⟨p1, p2, p3, p4, p5⟩ := pick_ok h1 h2
  have hf : (List.range (Mu43.HOURS + 1)).find? (fun (x : Nat) => decide (lo ≤ x) && (decide (x ≤ hi) && (decide (x ≤ n) && Mu43.ways lo hi k (n - x) != 0))) = some (max lo (n - k * hi)) := by
    rw [List.find?_range_eq_some]
    refine ⟨?_, List.mem_range.mpr (by show _ < 25; omega), fun j hj => ?_⟩
    · have h := (ways_ne lo hi k (n - max lo (n - k * hi)) (by omega)).mpr ⟨p4, p5⟩
      simp only [Bool.and_eq_true, decide_eq_true_eq, bne_iff_ne]
      exact ⟨p1, p2, p3, h⟩
    · rw [Bool.not_eq_true', Bool.eq_false_iff]
      intro q
      simp only [Bool.and_eq_true, decide_eq_true_eq, bne_iff_ne] at q
      obtain ⟨q1, q2, q3, q4⟩ := q
      have := (ways_ne lo hi k (n - j) (by omega)).mp q4
      omega
  conv => lhs; unfold Mu43.cut
  rw [hf]
theorem kinds_eq {n : Nat} (h2 : 2 ≤ n) (h5 : n ≤ 5) : (((List.range 7).filter fun i => Nat.gcd n (2 + i) == 1).map fun i => 2 + i) = [2, 3, 4, 5, 6, 7, 8].filter fun (k : Nat) => Nat.gcd n k == 1 := by
  have : n = 2 ∨ n = 3 ∨ n = 4 ∨ n = 5 := by omega
  rcases this with rfl | rfl | rfl | rfl <;> decide +kernel
end Sw

/-! Still more words of values: dicts, locks, any, min of two, lists put together. -/
namespace Sw
open PySem PySem.Spec PyProof.Rows L2 Evl
section
variable {K : PySem.W.Frag} {σ : L2.St} {H H' : Hp} {ta tb te tl tu tx : TE} {t u : TT} {x y z v : V} {D : Ends} {tz : TS}
theorem ev_min2 {i j : Int} (ha : Ev ta σ H (.int i)) (hb : Ev tb σ H (.int j)) : Ev (tCB (fun xs H Q => ∃ i j, xs = [.int i, .int j] ∧ Q (.int (if j < i then j else i)) H) (tCons ta (tCons tb tNil))) σ H (.int (if j < i then j else i)) := fun H1 e Q q =>
  ha H1 e _ fun H2 e2 => hb H2 (e.trans e2) _ fun H3 e3 => ⟨i, j, rfl, q H3 (e2.trans e3)⟩
theorem ev_anyN {bs : List Bool} (h : EvL ta σ H (bs.map V.bl)) : Ev (tCB (rAny K) (tCons ta tNil)) σ H (.bl (bs.any id)) := fun H1 e _ q =>
  h H1 e _ fun p H2 _ e2 h2 => ⟨p, bs, rfl, sq_of h2, q H2 e2⟩
/-- while the thing at d is locked -/
theorem ev_lock {d : Addr} {o : HO} (hd : H d = some o) (hm : Mut (some o)) (h : ∀ od, Ev te σ (upd H d (.frz od o)) v) : Ev (tLockE te) σ H v := fun H1 e Q q =>
  ⟨d, o, e d _ hd, hm, fun od => h od (upd H1 d (.frz od o)) (fun a u ha => by
    by_cases c : a = d
    · subst c
      rw [upd_same] at ha ⊢
      exact ha
    · rw [upd_ne c] at ha ⊢
      exact e a u ha) _ fun H2 e2 => ⟨e2 d _ upd_same, q _ fun a u ha => by
    by_cases c : a = d
    · subst c
      rw [upd_same]
      rw [e a _ hd] at ha
      exact ha
    · rw [upd_ne c]
      exact e2 a u (by rw [upd_ne c]; exact ha)⟩⟩
/-- a comprehension over a locked dict -/
theorem el_lcK {d : Addr} {od : Obj} {kvs : List (Key × V)} {j : Nat} {vs : List Nat} (f : Nat → Bool) (w : Nat → V) (h : Ev tl σ H (.ref d)) (hd : H d = some (.frz od (.dK kvs))) (hz : kvs.length ≤ 40000) (hw : ∀ x, wipe ((wipe σ vs).set j (some x)) vs = wipe σ vs)
    (ht : ∀ (i : Nat) (k : Key) (x : V) H1, Ex H H1 → kvs[i]? = some (k, x) → EvT t ((wipe σ vs).set j (some (kV k))) H1 (f i)) (he : ∀ (i : Nat) (k : Key) (x : V) H1, Ex H H1 → kvs[i]? = some (k, x) → f i = true → Ev te ((wipe σ vs).set j (some (kV k))) H1 (w i)) :
    EvL (tLc (iKeys tl) (gName j) t te vs) σ H (given kvs.length f w) := fun H0 e Q q => h H0 e _ fun H1 e1 => ⟨d, od, rfl, .inl ⟨kvs, (e.trans e1) d _ hd, fun Dl hD =>
  lc_it walk_keys (Cw H1 f w Dl) ⟨hD, Ex.new hD, upd_same⟩ (fun i H' _ p => p.2.1 d _ ((e.trans e1) d _ hd)) (fun i x H' H2 hi p y => by
    obtain ⟨rfl, k, v, hk, rfl⟩ := y
    exact ⟨hw _, cw_turn p (by omega) (ht i k v H1 (e.trans e1) hk) (fun hf => he i k v H1 (e.trans e1) hk hf)⟩) (fun H' p => q Dl H' (fresh_back e1 p.1) (e1.trans p.2.1) p.2.2)⟩⟩
theorem isD_of {d : Addr} {kvs : List (Key × V)} (h : Rd H d (.dK kvs)) : IsD H d := .inl ⟨kvs, h⟩
/-- d.get(k, x) -/
theorem ev_dget2 {d : Addr} {kvs : List (Key × V)} {k : Key} (ha : Ev ta σ H (.ref d)) (hd : Rd H d (.dK kvs)) (hb : Ev tb σ H (kV k)) (hx : Ev tx σ H x) : Ev (tDGet2 ta tb tx) σ H ((valV kvs k).getD x) := fun H1 e Q q =>
  ha H1 e _ fun H2 e2 => ⟨d, rfl, isD_of (ex_rd (e.trans e2) hd), hb H2 (e.trans e2) _ fun H3 e3 => hx H3 ((e.trans e2).trans e3) _ fun H4 e4 => ⟨_, .inl ⟨kvs, k, ex_rd (((e.trans e2).trans e3).trans e4) hd, rfl, rfl⟩, q H4 ((e2.trans e3).trans e4)⟩⟩
/-- k in d -/
theorem ev_din {d : Addr} {kvs : List (Key × V)} {k : Key} (hb : Ev tb σ H (kV k)) (ha : Ev ta σ H (.ref d)) (hd : Rd H d (.dK kvs)) : Ev (tDIn tb ta) σ H (.bl (valV kvs k).isSome) := fun H1 e Q q =>
  hb H1 e _ fun H2 e2 => ha H2 (e.trans e2) _ fun H3 e3 => ⟨d, _, rfl, .inl ⟨kvs, k, ex_rd ((e.trans e2).trans e3) hd, rfl, rfl⟩, q H3 (e2.trans e3)⟩
/-- d[k] = v -/
theorem s_dput {d : Addr} {kvs : List (Key × V)} {k : Key} (hv : Ev te σ H v) (ha : Ev ta σ H (.ref d)) (hb : Ev tb σ H (kV k)) (hd : H d = some (.dK kvs)) (hz : kvs.length < 100000) (q : ∀ H1, Ex H H1 → D.nx σ (upd H1 d (.dK (putK kvs k v)))) : sDPut ta tb te D σ H :=
  hv H (Ex.refl H) _ fun H1 e1 => ha H1 e1 _ fun H2 e2 => hb H2 (e1.trans e2) _ fun H3 e3 => ⟨d, _, rfl, DPut.k (((e1.trans e2).trans e3) d _ hd) (sz_lt hz), q H3 ((e1.trans e2).trans e3)⟩
theorem q_dput {d : Addr} {kvs : List (Key × V)} {k : Key} (hv : Ev te σ H v) (ha : Ev ta σ H (.ref d)) (hb : Ev tb σ H (kV k)) (hd : H d = some (.dK kvs)) (hz : kvs.length < 100000) (q : ∀ H1, Ex H H1 → tz D σ (upd H1 d (.dK (putK kvs k v)))) : tSeq (sDPut ta tb te) tz D σ H :=
  s_dput (D := { D with nx := tz D }) hv ha hb hd hz q
/-- a new dict -/
theorem q_asgD {i : Nat} (k : ∀ p, H p = none → tz D (σ.set i (some (.ref p))) (upd H p (.dK []))) : tSeq (tAsg tDNewK (gName i)) tz D σ H := fun p hp => k p hp
/-- two new lists, put together -/
theorem el_cat {xs ys : List V} (ha : EvL ta σ H xs) (hb : EvL tb σ H ys) (hz : xs.length + ys.length ≤ 100000) : EvL (tOp rCat ta tb) σ H (xs ++ ys) := fun H1 e _ q =>
  ha H1 e _ fun p H2 _ e2 h2 => hb H2 (e.trans e2) _ fun p' H3 _ e3 h3 => ⟨p, p', xs, ys, rfl, rfl, e3 p _ h2, h3, sz_of hz, fun r hr =>
    q r _ (fresh_back (e2.trans e3) hr) ((e2.trans e3).trans (Ex.new hr)) upd_same⟩
/-- a list, so many times -/
theorem el_rep {xs : List V} {n : Nat} (ha : EvL ta σ H xs) (hb : Ev tb σ H (.int (n : Int))) (hn : n ≤ 100000) (hz : xs.length * n ≤ 100000) : EvL (tOp rRep ta tb) σ H (List.replicate n xs).flatten := fun H1 e _ q =>
  ha H1 e _ fun p H2 _ e2 h2 => hb H2 (e.trans e2) _ fun H3 e3 => ⟨p, (n : Int), xs, rfl, rfl, e3 p _ h2, by omega, by omega, by rw [Int.toNat_natCast]; exact sz_of hz, fun r hr => by
    rw [Int.toNat_natCast]
    exact q r _ (fresh_back (e2.trans e3) hr) ((e2.trans e3).trans (Ex.new hr)) upd_same⟩
/-- a list that stands and a list of one new tuple, put together -/
theorem q_asgSnoc {i : Nat} {l : Addr} {xs ys : List V} (ha : Ev ta σ H (.ref l)) (hl : H l = some (.lst xs)) (hu : EvU tu σ H ys) (hz : xs.length + 1 ≤ 100000)
    (k : ∀ p r H1, H p = none → H r = none → Ex H H1 → H1 r = some (.tup ys) → H1 p = some (.lst (xs ++ [.ref r])) → tz D (σ.set i (some (.ref p))) H1) : tSeq (tAsg (tOp rCat ta (tLst (tCons tu tNil))) (gName i)) tz D σ H :=
  ha H (Ex.refl H) _ fun H1 e1 => hu H1 e1 _ fun r H2 hr e2 h2 => ⟨sz_of (by simp), fun b hb => ⟨l, b, xs, [.ref r], rfl, rfl, (Ex.new hb) l _ ((e1.trans e2) l _ hl), upd_same, sz_of hz, fun p hp =>
    k p r _ (fresh_back ((e1.trans e2).trans (Ex.new hb)) hp) (fresh_back e1 hr) (((e1.trans e2).trans (Ex.new hb)).trans (Ex.new hp)) ((Ex.new hp) _ _ ((Ex.new hb) _ _ h2)) upd_same⟩⟩
theorem q_extL {l : Addr} {xs ys : List V} (hl : H l = some (.lst xs)) (ha : Ev ta σ H (.ref l)) (h : EvL te σ H ys) (hz : xs.length + ys.length ≤ 100000) (k : ∀ H1, Ex H H1 → tz D σ (upd H1 l (.lst (xs ++ ys)))) :
    tSeq (tDrop (tBM K "list" rExtend ta (tCons te tNil))) tz D σ H := s_extL (D := { D with nx := tz D }) hl ha h hz k
theorem s_asgC {ta : TA} {sp : Sp} {dvs vs : List V} {E : XK} {i : Nat} (h : EvA ta σ H vs) (k : ∀ H1, Ex H H1 → sp (vs ++ dvs) H1 (fun v H2 => D.nx (σ.set i (some v)) H2) E) : tAsg (tCall sp dvs E ta) (gName i) D σ H := h H (Ex.refl H) _ fun H1 e1 => k H1 e1
theorem q_asgC {ta : TA} {sp : Sp} {dvs vs : List V} {E : XK} {i : Nat} (h : EvA ta σ H vs) (k : ∀ H1, Ex H H1 → sp (vs ++ dvs) H1 (fun v H2 => tz D (σ.set i (some v)) H2) E) : tSeq (tAsg (tCall sp dvs E ta) (gName i)) tz D σ H := s_asgC (D := { D with nx := tz D }) h k
theorem s_retC {ta : TA} {sp : Sp} {dvs vs : List V} {E : XK} (h : EvA ta σ H vs) (k : ∀ H1, Ex H H1 → sp (vs ++ dvs) H1 (fun v H2 => D.rt v H2) E) : tRet (tCall sp dvs E ta) D σ H := h H (Ex.refl H) _ fun H1 e1 => k H1 e1
theorem rv_fdiv {i j : Nat} (h : 0 < j ∧ j < 1000) : RV (rI CDiv fun i j => .int (i / j)) (.int i) (.int j) H (.int ((i / j : Nat) : Int)) := fun H1 _ _ q => ⟨i, j, rfl, rfl, ⟨by omega, by omega⟩, by
  rw [Int.natCast_ediv] at q
  exact q H1 (Ex.refl H1)⟩
theorem rv_mod {i j : Nat} (h : 0 < j) : RV (rI (fun _ j => 0 < j) fun i j => .int (i % j)) (.int i) (.int j) H (.int ((i % j : Nat) : Int)) := fun H1 _ _ q => ⟨i, j, rfl, rfl, by omega, by
  rw [Int.natCast_emod] at q
  exact q H1 (Ex.refl H1)⟩
theorem rv_mul {i j : Nat} (h : j < 1000) : RV (rI CMul fun i j => .int (i * j)) (.int i) (.int j) H (.int ((i * j : Nat) : Int)) := fun H1 _ _ q => ⟨i, j, rfl, rfl, .inr ⟨by omega, by omega⟩, by
  rw [Int.natCast_mul] at q
  exact q H1 (Ex.refl H1)⟩
theorem rv_add {i j : Nat} : RV (rI0 fun i j => .int (i + j)) (.int i) (.int j) H (.int ((i + j : Nat) : Int)) := fun H1 _ _ q => ⟨i, j, rfl, rfl, by
  rw [Int.natCast_add] at q
  exact q H1 (Ex.refl H1)⟩
end
end Sw

namespace Sw
open PySem PySem.Spec PyProof.Rows L2 Evl
/-! ### numbers as values -/
def vN (l : List Nat) : List V := l.map fun (n : Nat) => V.int (n : Int)
theorem vN_ints (l : List Nat) : vN l = (l.map fun (n : Nat) => (n : Int)).map V.int := by
  unfold vN
  rw [List.map_map]
  rfl
theorem vN_len (l : List Nat) : (vN l).length = l.length := by
  unfold vN
  rw [List.length_map]
theorem given_nats (n : Nat) (f : Nat → Bool) (g : Nat → Nat) : given n f (fun i => V.int ((g i : Nat) : Int)) = vN (((List.range n).filter f).map g) := by
  unfold given vN
  rw [List.map_map]
  rfl
theorem given_all (n : Nat) (g : Nat → Nat) : given n (fun _ => true) (fun i => V.int ((g i : Nat) : Int)) = vN ((List.range n).map g) := by
  rw [given_nats, filter_all fun _ _ => rfl]
theorem ev_sumNat {K : PySem.W.Frag} {σ : L2.St} {H : Hp} {ta : TE} {l : List Nat} (h : EvL ta σ H (vN l)) : Ev (tCB (rSum K) (tCons ta tNil)) σ H (.int (l.sum : Nat)) := by
  rw [vN_ints] at h
  rw [← sum_cast]
  exact ev_sumN h
theorem vN_get {l : List Nat} {i : Nat} (h : i < l.length) : (vN l)[i]? = some (.int ((l.getD i 0 : Nat) : Int)) := by
  unfold vN
  rw [List.getElem?_map, List.getElem?_eq_getElem h, List.getD_eq_getElem?_getD, List.getElem?_eq_getElem h]
  rfl
theorem vN_at {l : List Nat} {i : Nat} {x : V} (h : (vN l)[i]? = some x) : i < l.length ∧ x = .int ((l.getD i 0 : Nat) : Int) := by
  have hi : i < l.length := by
    have := (List.getElem?_eq_some_iff.mp h).1
    rw [vN_len] at this
    exact this
  exact ⟨hi, Option.some.inj (h.symm.trans (vN_get hi))⟩
theorem getD_mem {l : List Nat} {i : Nat} (h : i < l.length) : l.getD i 0 ∈ l := by
  rw [List.getD_eq_getElem?_getD, List.getElem?_eq_getElem h]
  exact List.getElem_mem h
theorem map_getD (l : List Nat) (f : Nat → Nat) : ((List.range l.length).map fun i => f (l.getD i 0)) = l.map f := by
  apply List.ext_getElem
  · simp
  · intro i h1 h2
    simp only [List.getElem_map, List.getElem_range]
    rw [List.getD_eq_getElem?_getD, List.getElem?_eq_getElem (by simpa using h2)]
    rfl
theorem dec_nat (a b : Nat) : decide ((a : Int) = (b : Int)) = decide (a = b) := decide_eq_decide.mpr ⟨fun h => by omega, fun h => by omega⟩
theorem mem_cast {l : List Nat} {m : Nat} (h : m ∈ l) : (m : Int) ∈ l.map fun (n : Nat) => (n : Int) := List.mem_map_of_mem (f := fun (n : Nat) => (n : Int)) h
theorem all_cast {l : List Nat} {p : Int → Prop} (h : ∀ y ∈ l, p ((y : Nat) : Int)) : ∀ y ∈ l.map fun (n : Nat) => (n : Int), p y := fun y hy => by
  obtain ⟨z, hz, rfl⟩ := List.mem_map.mp hy
  exact h z hz
theorem ev_minNat {K : PySem.W.Frag} {σ : L2.St} {H : Hp} {ta : TE} {a : Addr} {l : List Nat} (h : Ev ta σ H (.ref a)) (hs : SqL K H a (vN l)) (hl : l ≠ []) : Ev (tCB (rMin K) (tCons ta tNil)) σ H (.int (Mu43.least l : Nat)) := by
  rw [vN_ints] at hs
  exact ev_minR h hs (mem_cast (least_mem hl)) (all_cast fun y hy => by have := least_le hy; omega)
theorem ev_maxNat {K : PySem.W.Frag} {σ : L2.St} {H : Hp} {ta : TE} {a : Addr} {l : List Nat} (h : Ev ta σ H (.ref a)) (hs : SqL K H a (vN l)) (hl : l ≠ []) : Ev (tCB (rMax K) (tCons ta tNil)) σ H (.int (Mu43.most l : Nat)) := by
  rw [vN_ints] at hs
  exact ev_maxR h hs (mem_cast (most_mem hl)) (all_cast fun y hy => by have := le_most hy; omega)
theorem ev_sumRNat {K : PySem.W.Frag} {σ : L2.St} {H : Hp} {ta : TE} {a : Addr} {l : List Nat} (h : Ev ta σ H (.ref a)) (hs : SqL K H a (vN l)) : Ev (tCB (rSum K) (tCons ta tNil)) σ H (.int (l.sum : Nat)) := by
  rw [vN_ints] at hs
  rw [← sum_cast]
  exact ev_sumR h hs
/-! ### what begin refuses -/
def bad (n f : Nat) (l : List Nat) : Prop := n < 2 ∨ 5 < n ∨ n ≤ f ∨ l.length < 2 ∨ 8 < l.length ∨ l.any (fun (x : Nat) => x == 0) = true ∨ Mu43.total l ≠ Mu43.HOURS
instance (n f : Nat) (l : List Nat) : Decidable (bad n f l) := by unfold bad; infer_instance
theorem ok_of_good {n f : Nat} {l : List Nat} (h : ¬ bad n f l) : OkT ⟨n, f, l⟩ := by
  unfold bad at h
  simp only [not_or] at h
  obtain ⟨h1, h2, h3, h4, h5, h6, h7⟩ := h
  refine ⟨by show 2 ≤ n; omega, by show n ≤ 5; omega, by show f < n; omega, by show 2 ≤ l.length; omega, by show l.length ≤ 8; omega, fun x hx => ?_, ?_⟩
  · rcases Nat.eq_zero_or_pos x with e | e
    · exact absurd (List.any_eq_true.mpr ⟨x, hx, by simp [e]⟩) h6
    · exact e
  · exact Decidable.not_not.mp h7
theorem least_pos {l : List Nat} (h : l ≠ []) : 0 < Mu43.least l ↔ l.any (fun (x : Nat) => x == 0) = false := by
  constructor
  · intro h0
    cases e : l.any (fun (x : Nat) => x == 0) with
    | false => rfl
    | true =>
      obtain ⟨x, hx, e2⟩ := List.any_eq_true.mp e
      have := least_le hx
      have : x = 0 := by simpa using e2
      omega
  · intro h0
    rcases Nat.eq_zero_or_pos (Mu43.least l) with e | e
    · have hm := least_mem h
      rw [e] at hm
      have : l.any (fun (x : Nat) => x == 0) = true := List.any_eq_true.mpr ⟨0, hm, rfl⟩
      rw [this] at h0
      cases h0
    · exact e
/-! ### a ship as it lies in the heap -/
/-- the names of methods: none of them is an attribute -/
def meths : List Str := ["watches", "has_team", "has_watch", "place_of", "day_and_watch", "length_at", "turn_at", "round_days", "is_fair", "places_in_round", "hours_in_round", "rest_behind", "rests_of", "day_it_comes"]
def shF (t : Mu43.Turn) (l : Addr) : List (Str × V) := [("teams", .int t.teams), ("first", .int t.first), ("lengths", .ref l)]
structure ShipAt (C : Addr) (H : Hp) (a : Addr) (t : Mu43.Turn) : Prop where
  ex : ∃ dx l, H a = some (.ins C dx (shF t l)) ∧ H l = some (.lst (vN t.long))
theorem ShipAt.mono {C : Addr} {H H' : Hp} {a : Addr} {t : Mu43.Turn} (h : ShipAt C H a t) (e : Ex H H') : ShipAt C H' a t := by
  obtain ⟨dx, l, h1, h2⟩ := h.ex
  exact ⟨dx, l, e _ _ h1, e _ _ h2⟩
theorem lkH {k : Str} {v : V} {r : List (Str × V)} : List.lookup k ((k, v) :: r) = some v := by
  have e : (k == k) = true := beq_self_eq_true k
  simp only [List.lookup, e]
theorem lkP {k g : Str} {v : V} {r : List (Str × V)} (h : (k == g) = false) : List.lookup k ((g, v) :: r) = List.lookup k r := by
  simp only [List.lookup, h]
section
variable (t : Mu43.Turn) (l : Addr)
theorem shTeams : (shF t l).lookup ("teams" : Str) = some (.int t.teams) := lkH
theorem shFirst : (shF t l).lookup ("first" : Str) = some (.int t.first) := (lkP (by decide +kernel)).trans lkH
theorem shLengths : (shF t l).lookup ("lengths" : Str) = some (.ref l) := (lkP (by decide +kernel)).trans ((lkP (by decide +kernel)).trans lkH)
theorem shNo {m : Str} (h : (meths.any fun x => x == m) = true) : (shF t l).lookup m = none := by
  have key : ∀ x ∈ meths, (shF t l).lookup x = none := by
    intro x hx
    have h1 : (meths.all fun x => !(x == ("teams" : Str)) && !(x == ("first" : Str)) && !(x == ("lengths" : Str))) = true := by decide +kernel
    have h2 := List.all_eq_true.mp h1 x hx
    simp only [Bool.and_eq_true, Bool.not_eq_true'] at h2
    exact (lkP h2.1.1).trans ((lkP h2.1.2).trans ((lkP h2.2).trans rfl))
  obtain ⟨x, hx, e⟩ := List.any_eq_true.mp h
  rw [← eq_of_beq e]
  exact key x hx
end
/-! ### the promises -/
def spTeams : Sp := fun vs H Q _ => ∃ (n : Nat), vs = [.int n] ∧ RetV (.bl (decide (2 ≤ n ∧ n ≤ 5))) H Q
def spCount : Sp := fun vs H Q _ => ∃ (n : Nat), vs = [.int n] ∧ RetV (.bl (decide (2 ≤ n ∧ n ≤ 8))) H Q
def spMay (K : PySem.W.Frag) : Sp := fun vs H Q _ => ∃ (b : Addr) (n f : Nat) (l : List Nat), vs = [.int n, .int f, .ref b] ∧ SqL K H b (vN l) ∧ RetV (.bl (!decide (bad n f l))) H Q
def spDays : Sp := fun vs H Q _ => ∃ (T n : Nat), vs = [.int T, .int n] ∧ (2 ≤ T ∧ T ≤ 5 ∧ 2 ≤ n ∧ n ≤ 8) ∧ RetV (.int ((T / Nat.gcd T n : Nat) : Int)) H Q
def spFairT : Sp := fun vs H Q _ => ∃ (T n : Nat), vs = [.int T, .int n] ∧ (2 ≤ T ∧ T ≤ 5 ∧ 2 ≤ n ∧ n ≤ 8) ∧ RetV (.bl (Nat.gcd T n == 1)) H Q
section
variable (C : Addr)
def spWatches : Sp := fun vs H Q _ => ∃ (a : Addr) (t : Mu43.Turn), vs = [.ref a] ∧ ShipAt C H a t ∧ RetV (.int (t.long.length : Int)) H Q
def spHasTeam : Sp := fun vs H Q _ => ∃ (a : Addr) (t : Mu43.Turn) (q : Nat), vs = [.ref a, .int q] ∧ ShipAt C H a t ∧ RetV (.bl (decide (q < t.teams))) H Q
def spHasWatch : Sp := fun vs H Q _ => ∃ (a : Addr) (t : Mu43.Turn) (q : Nat), vs = [.ref a, .int q] ∧ ShipAt C H a t ∧ RetV (.bl (decide (q < t.long.length))) H Q
def spPlace : Sp := fun vs H Q _ => ∃ (a : Addr) (t : Mu43.Turn) (d w : Nat), vs = [.ref a, .int d, .int w] ∧ ShipAt C H a t ∧ OkT t ∧ RetV (.int (Mu43.number t d w : Nat)) H Q
def spDayWatch : Sp := fun vs H Q _ => ∃ (a : Addr) (t : Mu43.Turn) (g : Nat), vs = [.ref a, .int g] ∧ ShipAt C H a t ∧ OkT t ∧ RetL (vN [g / t.long.length, g % t.long.length]) H Q
def spLength : Sp := fun vs H Q _ => ∃ (a : Addr) (t : Mu43.Turn) (g : Nat), vs = [.ref a, .int g] ∧ ShipAt C H a t ∧ OkT t ∧ RetV (.int (Mu43.hours t g : Nat)) H Q
def spTurnAt : Sp := fun vs H Q _ => ∃ (a : Addr) (t : Mu43.Turn) (g : Nat), vs = [.ref a, .int g] ∧ ShipAt C H a t ∧ OkT t ∧ RetV (.int (Mu43.turn t g : Nat)) H Q
def spRoundDays : Sp := fun vs H Q _ => ∃ (a : Addr) (t : Mu43.Turn), vs = [.ref a] ∧ ShipAt C H a t ∧ OkT t ∧ RetV (.int (Mu43.round t : Nat)) H Q
def spIsFair : Sp := fun vs H Q _ => ∃ (a : Addr) (t : Mu43.Turn), vs = [.ref a] ∧ ShipAt C H a t ∧ OkT t ∧ RetV (.bl (Mu43.fair t)) H Q
/-- the watches of a round that are a team's -/
def places (t : Mu43.Turn) (q : Nat) : List Nat := (List.range (Mu43.round t * Mu43.watches t)).filter fun (g : Nat) => Mu43.turn t g == q
def spPlaces : Sp := fun vs H Q _ => ∃ (a : Addr) (t : Mu43.Turn) (q : Nat), vs = [.ref a, .int q] ∧ ShipAt C H a t ∧ OkT t ∧ RetL (vN (places t q)) H Q
def spHoursInRound : Sp := fun vs H Q _ => ∃ (a : Addr) (t : Mu43.Turn) (q : Nat), vs = [.ref a, .int q] ∧ ShipAt C H a t ∧ OkT t ∧ RetV (.int (Mu43.share t q (Mu43.round t * Mu43.watches t) 0 : Nat)) H Q
def spRestBehind : Sp := fun vs H Q _ => ∃ (a : Addr) (t : Mu43.Turn) (g : Nat), vs = [.ref a, .int g] ∧ ShipAt C H a t ∧ OkT t ∧ RetV (.int (Mu43.rest t g : Nat)) H Q
def spRestsOf : Sp := fun vs H Q _ => ∃ (a : Addr) (t : Mu43.Turn) (q : Nat), vs = [.ref a, .int q] ∧ ShipAt C H a t ∧ OkT t ∧ RetL (vN (Mu43.rests t q)) H Q
def vOpt : Option Nat → V
  | none => .non
  | some n => .int (n : Int)
def spComesDay : Sp := fun vs H Q _ => ∃ (a : Addr) (t : Mu43.Turn) (q w d : Nat), vs = [.ref a, .int q, .int w, .int d] ∧ ShipAt C H a t ∧ OkT t ∧ d ≤ 300 ∧ RetV (vOpt (Mu43.comes t q w d)) H Q
end
section
variable {P : Program} {w : World} {K : PySem.W.Frag} {mg : Str → Option Value} {base : Heap} {C CR : Addr}
theorem p_may_be_teams (Z : Top K mg C CR) : FnP P w K mg base 1 "may_be_teams" ["teams"] spTeams := by
  obtain ⟨f, fd, F, b, m, kp⟩ := Z.f_may_be_teams
  have T := Z.T
  obtain ⟨_, c_FEWEST_TEAMS⟩ := T.c_FEWEST_TEAMS
  obtain ⟨_, c_MOST_TEAMS⟩ := T.c_MOST_TEAMS
  refine ⟨f, fd, F.ok sc_may_be_teams (fun vs H Q E h => ?_) (fun cdv A outer s H vs Q E hr h => ?_), b, m, kp⟩
  · obtain ⟨n, rfl, _⟩ := h
    rfl
  · obtain ⟨n, rfl, k⟩ := h
    have nd := sc_may_be_teams.nd
    refine ⟨_, (pss_one (ps_ret (pe_and (pe_cmpR op_ge (pv 0) (pe_gint rfl c_FEWEST_TEAMS) (nomark _)) (pe_one (pe_cmpR op_le (pv 0) (pe_gint rfl c_MOST_TEAMS) (nomark _)))))), ?_⟩
    refine s_ret (ev_is (ev_andV (ev_op (ev_var rfl) ev_c rv_I0) fun _ => ev_op (ev_var rfl) ev_c rv_I0) ?_) fun H1 e1 => k H1 e1
    refine congrArg V.bl ?_
    rw [Bool.eq_iff_iff]
    simp only [Bool.and_eq_true, decide_eq_true_eq]
    omega
theorem v_teams {H : Hp} {n : Nat} : SpV spTeams [.int n] H (.bl (decide (2 ≤ n ∧ n ≤ 5))) := fun H1 e Q q E => ⟨n, rfl, q⟩
theorem p_may_be_watches (Z : Top K mg C CR) : FnP P w K mg base 1 "may_be_watches" ["watches"] spCount := by
  obtain ⟨f, fd, F, b, m, kp⟩ := Z.f_may_be_watches
  have T := Z.T
  obtain ⟨_, c_FEWEST_WATCHES⟩ := T.c_FEWEST_WATCHES
  obtain ⟨_, c_MOST_WATCHES⟩ := T.c_MOST_WATCHES
  refine ⟨f, fd, F.ok sc_may_be_watches (fun vs H Q E h => ?_) (fun cdv A outer s H vs Q E hr h => ?_), b, m, kp⟩
  · obtain ⟨n, rfl, _⟩ := h
    rfl
  · obtain ⟨n, rfl, k⟩ := h
    have nd := sc_may_be_watches.nd
    refine ⟨_, (pss_one (ps_ret (pe_and (pe_cmpR op_ge (pv 0) (pe_gint rfl c_FEWEST_WATCHES) (nomark _)) (pe_one (pe_cmpR op_le (pv 0) (pe_gint rfl c_MOST_WATCHES) (nomark _)))))), ?_⟩
    refine s_ret (ev_is (ev_andV (ev_op (ev_var rfl) ev_c rv_I0) fun _ => ev_op (ev_var rfl) ev_c rv_I0) ?_) fun H1 e1 => k H1 e1
    refine congrArg V.bl ?_
    rw [Bool.eq_iff_iff]
    simp only [Bool.and_eq_true, decide_eq_true_eq]
    omega
theorem v_count {H : Hp} {n : Nat} : SpV spCount [.int n] H (.bl (decide (2 ≤ n ∧ n ≤ 8))) := fun H1 e Q q E => ⟨n, rfl, q⟩
theorem p_may_be_ship (Z : Top K mg C CR) : FnP P w K mg base 2 "may_be_ship" ["teams", "first", "lengths"] (spMay K) := by
  obtain ⟨f, fd, F, b, m, kp⟩ := Z.f_may_be_ship
  obtain ⟨f_may_be_teams, fd_may_be_teams, G_may_be_teams, b_may_be_teams, g_may_be_teams, kp_may_be_teams⟩ := p_may_be_teams (P := P) (w := w) (base := base) Z
  obtain ⟨f_may_be_watches, fd_may_be_watches, G_may_be_watches, b_may_be_watches, g_may_be_watches, kp_may_be_watches⟩ := p_may_be_watches (P := P) (w := w) (base := base) Z
  have T := Z.T
  obtain ⟨_, c_DAY_HOURS⟩ := T.c_DAY_HOURS
  refine ⟨f, fd, F.ok sc_may_be_ship (fun vs H Q E h => ?_) (fun cdv A outer s H vs Q E hr h => ?_), b, m, kp⟩
  · obtain ⟨b, n, f, l, rfl, _⟩ := h
    rfl
  · obtain ⟨b, n, ff, l, rfl, hs, k⟩ := h
    have nd := sc_may_be_ship.nd
    have hr_may_be_teams : Room 1 _ := hr.mono (by decide)
    have hr_may_be_watches : Room 1 _ := hr.mono (by decide)
    refine ⟨_, (pss_cons (ps_if (PW.pt (pw_or (pt_not (pt_val (pe_call G_may_be_teams hr_may_be_teams (by rfl) g_may_be_teams kp_may_be_teams b_may_be_teams .nil pass0 (pa_cons (pv 0) pa_nil)))) (pw_or (pt_cmpR op_ge (pv 1) (pv 0) (nomark _)) (pw_or1 (pt_not (pt_val (pe_call G_may_be_watches hr_may_be_watches (by rfl) g_may_be_watches kp_may_be_watches b_may_be_watches .nil pass0 (pa_cons (pe_callB call_len_seq (by rfl) T.z_len (by decide +kernel) (pa_cons (pv 2) pa_nil)) pa_nil)))))))) (pss_one (ps_ret pe_bl)) pss_nil) (pss_one (ps_ret (pe_and (pe_cmpR op_gt (pe_callB (cr_min rfl) (by rfl) T.z_min (by decide +kernel) (pa_cons (pv 2) pa_nil)) pe_int (nomark _)) (pe_one (pe_cmpR op_eq (pe_callB (cr_sum rfl) (by rfl) T.z_sum (by decide +kernel) (pa_cons (pv 2) pa_nil)) (pe_gint rfl c_DAY_HOURS) (nomark _))))))), ?_⟩
    refine q_when (et_or (et_not (et_B (ev_call (dvs := []) (ea_cons (ev_var rfl) ea_nil) v_teams))) fun _ => et_or (et_I0 (ev_var rfl) (ev_var rfl)) fun _ => et_not (et_B (ev_call (dvs := []) (ea_cons (ev_len (ev_var rfl) hs) ea_nil) v_count))) (fun hb H1 e1 => ?_) (fun hb H1 e1 => ?_)
    · rw [vN_len] at hb
      have hbad : bad n ff l := by
        simp only [Bool.or_eq_true, Bool.not_eq_true', decide_eq_true_eq, decide_eq_false_iff_not] at hb
        unfold bad
        omega
      refine s_ret ev_c fun H2 e2 => ?_
      rw [decide_eq_true hbad] at k
      exact k H2 (e1.trans e2)
    · rw [vN_len] at hb
      simp only [Bool.or_eq_false_iff, Bool.not_eq_false', decide_eq_true_eq, decide_eq_false_iff_not] at hb
      have hne : l ≠ [] := by
        intro e
        rw [e] at hb
        simp at hb
      refine s_ret (ev_andV (ev_op (ev_minNat (ev_var rfl) (ex_l e1 hs) hne) ev_c rv_I0) fun _ => ev_eqI (ev_sumRNat (ev_var rfl) (ex_l e1 hs)) ev_c) fun H3 e3 => ?_
      have e4 : (decide ((0 : Int) < ((Mu43.least l : Nat) : Int)) && decide (((l.sum : Nat) : Int) = 24)) = !decide (bad n ff l) := by
        have hp := least_pos hne
        have ht := total_sum l
        by_cases c : bad n ff l
        · rw [decide_eq_true c]
          unfold bad at c
          have c2 : l.any (fun (x : Nat) => x == 0) = true ∨ Mu43.total l ≠ Mu43.HOURS := by
            rcases c with c | c | c | c | c | c | c
            all_goals first | exact .inl c | exact .inr c | (exfalso; omega)
          rcases c2 with c2 | c2
          · have : ¬ 0 < Mu43.least l := fun q => by rw [hp.mp q] at c2; cases c2
            rw [decide_eq_false (by omega)]
            rfl
          · have : ¬ l.sum = 24 := fun q => c2 (by rw [ht, q]; rfl)
            rw [decide_eq_false (p := ((l.sum : Nat) : Int) = 24) (by omega), Bool.and_false]
            rfl
        · have O := ok_of_good c
          have h1 : 0 < Mu43.least l := O.pos _ (least_mem hne)
          have h2 : l.sum = 24 := by rw [← ht]; exact O.sum
          rw [decide_eq_false c, decide_eq_true (by omega), decide_eq_true (by omega)]
          rfl
      rw [e4]
      exact k H3 (e1.trans e3)
theorem v_may {H : Hp} {b : Addr} {n f : Nat} {l : List Nat} (hs : SqL K H b (vN l)) : SpV (spMay K) [.int n, .int f, .ref b] H (.bl (!decide (bad n f l))) := fun H1 e1 Q k E => ⟨b, n, f, l, rfl, ex_l e1 hs, k⟩
theorem p_days_of_round (Z : Top K mg C CR) : FnP P w K mg base 1 "days_of_round" ["teams", "watches"] spDays := by
  obtain ⟨f, fd, F, b, m, kp⟩ := Z.f_days_of_round
  have T := Z.T
  refine ⟨f, fd, F.ok sc_days_of_round (fun vs H Q E h => ?_) (fun cdv A outer s H vs Q E hr h => ?_), b, m, kp⟩
  · obtain ⟨T, n, rfl, _⟩ := h
    rfl
  · obtain ⟨TT, n, rfl, ⟨t2, t5, n2, n8⟩, k⟩ := h
    have nd := sc_days_of_round.nd
    refine ⟨_, (pss_cons (ps_set (i := 2) nd rfl (Or.inl rfl) pe_int) (pss_cons (ps_while PassesOwn.never (pt_cmpR op_ne (pe_op op_mod (pe_op op_mul (pv 2) (pv 1)) (pv 0)) pe_int (nomark _)) (pss_one (ps_set (i := 2) nd rfl (Or.inl rfl) (pe_op op_add (pv 2) pe_int)))) (pss_one (ps_ret (pv 2))))), ?_⟩
    obtain ⟨⟨r1, r2⟩, r3, r4, _⟩ := round_facts TT (by omega) n (by omega) t2 n2
    generalize TT / Nat.gcd TT n = R at r1 r2 r3 r4 k
    refine q_asg ev_c fun H1 e1 => ?_
    refine q_while (fun m σ' H' => ∃ d : Nat, 1 ≤ d ∧ d ≤ R ∧ m = R - d ∧ σ' = [some (.int TT), some (.int n), some (.int (d : Int))] ∧ Ex H H') (R - 1) ⟨1, by omega, by omega, rfl, rfl, e1⟩ ?_
    rintro m σ' H' ⟨d, d1, d2, rfl, rfl, e⟩
    refine ⟨_, et_neI (ev_op (ev_op (ev_var rfl) (ev_var rfl) (rv_mul (by omega))) (ev_var rfl) (rv_mod (by omega))) ev_c, fun hb H2 e2 => ?_, fun hb H2 e2 => ?_⟩
    · have hne : ¬ (d * n) % TT = 0 := by
        intro q
        rw [q] at hb
        simp at hb
      have hlt : d < R := by
        rcases Nat.lt_or_ge d R with c | c
        · exact c
        · have ed : d = R := by omega
          rw [ed] at hne
          exact absurd r3 hne
      refine ⟨fun σ2 H2' => ∃ m', m' < R - d ∧ ∃ d' : Nat, 1 ≤ d' ∧ d' ≤ R ∧ m' = R - d' ∧ σ2 = [some (.int TT), some (.int n), some (.int (d' : Int))] ∧ Ex H H2', fun _ _ h => h, ?_⟩
      refine s_asg (ev_op (ev_var rfl) ev_c rv_I0) fun H3 e3 => ?_
      exact ⟨R - (d + 1), by omega, d + 1, by omega, by omega, rfl, rfl, (e.trans e2).trans e3⟩
    · have heq : (d * n) % TT = 0 := by
        have h0 : decide (((d * n % TT : Nat) : Int) = (0 : Int)) = true := by simpa using hb
        have := of_decide_eq_true h0
        omega
      have hd : d = R := by
        rcases Nat.lt_or_ge d R with c | c
        · exact absurd heq (r4 d (by omega) d1 c)
        · omega
      refine s_ret (ev_var rfl) fun H3 e3 => ?_
      rw [hd]
      exact k H3 ((e.trans e2).trans e3)
theorem v_days {H : Hp} {T n : Nat} (h : 2 ≤ T ∧ T ≤ 5 ∧ 2 ≤ n ∧ n ≤ 8) : SpV spDays [.int T, .int n] H (.int ((T / Nat.gcd T n : Nat) : Int)) := fun H1 e Q q E => ⟨T, n, rfl, h, q⟩
theorem p_makes_fair_turn (Z : Top K mg C CR) : FnP P w K mg base 2 "makes_fair_turn" ["teams", "watches"] spFairT := by
  obtain ⟨f, fd, F, b, m, kp⟩ := Z.f_makes_fair_turn
  obtain ⟨f_days_of_round, fd_days_of_round, G_days_of_round, b_days_of_round, g_days_of_round, kp_days_of_round⟩ := p_days_of_round (P := P) (w := w) (base := base) Z
  have T := Z.T
  refine ⟨f, fd, F.ok sc_makes_fair_turn (fun vs H Q E h => ?_) (fun cdv A outer s H vs Q E hr h => ?_), b, m, kp⟩
  · obtain ⟨T, n, rfl, _⟩ := h
    rfl
  · obtain ⟨TT, n, rfl, hh, k⟩ := h
    have nd := sc_makes_fair_turn.nd
    have hr_days_of_round : Room 1 _ := hr.mono (by decide)
    refine ⟨_, (pss_one (ps_ret (pe_cmpR op_eq (pe_call G_days_of_round hr_days_of_round (by rfl) g_days_of_round kp_days_of_round b_days_of_round .nil pass0 (pa_cons (pv 0) (pa_cons (pv 1) pa_nil))) (pv 0) (nomark _)))), ?_⟩
    refine s_ret (ev_is (ev_eqI (ev_call (dvs := []) (ea_cons (ev_var rfl) (ea_cons (ev_var rfl) ea_nil)) (v_days hh)) (ev_var rfl)) ?_) fun H1 e1 => k H1 e1
    obtain ⟨t2, t5, n2, n8⟩ := hh
    obtain ⟨_, _, _, r5⟩ := round_facts TT (by omega) n (by omega) t2 n2
    refine congrArg V.bl ?_
    rw [dec_nat, Bool.eq_iff_iff, decide_eq_true_eq, beq_iff_eq]
    exact r5
theorem v_fairT {H : Hp} {T n : Nat} (h : 2 ≤ T ∧ T ≤ 5 ∧ 2 ≤ n ∧ n ≤ 8) : SpV spFairT [.int T, .int n] H (.bl (Nat.gcd T n == 1)) := fun H1 e Q q E => ⟨T, n, rfl, h, q⟩
theorem p_watches (Z : Top K mg C CR) : MeP P w K mg base C 1 "watches" ["self"] (spWatches C) := by
  obtain ⟨f, fd, F, b, m⟩ := Z.m_Ship_watches
  have T := Z.T
  refine ⟨f, fd, F.ok sc_Ship_watches (fun vs H Q E h => ?_) (fun cdv A outer s H vs Q E hr h => ?_), b, m⟩
  · obtain ⟨a, t, rfl, _⟩ := h
    rfl
  · obtain ⟨a, t, rfl, S, k⟩ := h
    have nd := sc_Ship_watches.nd
    refine ⟨_, (pss_one (ps_ret (pe_callB call_len_seq (by rfl) T.z_len (by decide +kernel) (pa_cons (pe_fld (pv 0) rfl) pa_nil)))), ?_⟩
    obtain ⟨dx, l, ho, hl⟩ := S.ex
    refine s_ret (ev_len (ev_fld (ev_var rfl) ho T.clShip T.nShip_lengths (shLengths t l)) (sq_of hl)) fun H1 e1 => ?_
    rw [vN_len]
    exact k H1 e1
theorem v_watches {H : Hp} {a : Addr} {t : Mu43.Turn} (S : ShipAt C H a t) : SpV (spWatches C) [.ref a] H (.int (t.long.length : Int)) := fun H1 e Q q E => ⟨a, t, rfl, S.mono e, q⟩
theorem e_watches {ta : TE} {σ : L2.St} {H : Hp} {a : Addr} {t : Mu43.Turn} {E : XK} (h : Ev ta σ H (.ref a)) (S : ShipAt C H a t) : Ev (tMeth C "watches" (spWatches C) [] E ta tNil) σ H (.int (t.long.length : Int)) := by
  obtain ⟨dx, l, ho, hl⟩ := S.ex
  exact ev_meth h ho (shNo t l (by decide +kernel)) ea_nil (v_watches S)
theorem p_has_team (Z : Top K mg C CR) : MeP P w K mg base C 1 "has_team" ["self", "team"] (spHasTeam C) := by
  obtain ⟨f, fd, F, b, m⟩ := Z.m_Ship_has_team
  have T := Z.T
  refine ⟨f, fd, F.ok sc_Ship_has_team (fun vs H Q E h => ?_) (fun cdv A outer s H vs Q E hr h => ?_), b, m⟩
  · obtain ⟨a, t, q, rfl, _⟩ := h
    rfl
  · obtain ⟨a, t, q, rfl, S, k⟩ := h
    have nd := sc_Ship_has_team.nd
    refine ⟨_, (pss_one (ps_ret (pe_cmpR op_lt (pv 1) (pe_fld (pv 0) rfl) (nomark _)))), ?_⟩
    obtain ⟨dx, l, ho, hl⟩ := S.ex
    refine s_ret (ev_is (ev_op (ev_var rfl) (ev_fld (ev_var rfl) ho T.clShip T.nShip_teams (shTeams t l)) rv_I0) ?_) fun H1 e1 => k H1 e1
    refine congrArg V.bl (decide_eq_decide.mpr ⟨fun h => by omega, fun h => by omega⟩)
theorem e_has_team {ta tb : TE} {σ : L2.St} {H : Hp} {a : Addr} {t : Mu43.Turn} {q : Nat} {E : XK} (h : Ev ta σ H (.ref a)) (S : ShipAt C H a t) (hb : Ev tb σ H (.int q)) : Ev (tMeth C "has_team" (spHasTeam C) [] E ta (tCons tb tNil)) σ H (.bl (decide (q < t.teams))) := by
  obtain ⟨dx, l, ho, hl⟩ := S.ex
  exact ev_meth h ho (shNo t l (by decide +kernel)) (ea_cons hb ea_nil) fun H1 e Q k E => ⟨a, t, q, rfl, S.mono e, k⟩
theorem p_has_watch (Z : Top K mg C CR) : MeP P w K mg base C 2 "has_watch" ["self", "watch"] (spHasWatch C) := by
  obtain ⟨f, fd, F, b, m⟩ := Z.m_Ship_has_watch
  obtain ⟨f_watches, fd_watches, G_watches, b_watches, m_watches⟩ := p_watches (P := P) (w := w) (base := base) Z
  have T := Z.T
  refine ⟨f, fd, F.ok sc_Ship_has_watch (fun vs H Q E h => ?_) (fun cdv A outer s H vs Q E hr h => ?_), b, m⟩
  · obtain ⟨a, t, q, rfl, _⟩ := h
    rfl
  · obtain ⟨a, t, q, rfl, S, k⟩ := h
    have nd := sc_Ship_has_watch.nd
    have hr_watches : Room 1 _ := hr.mono (by decide)
    refine ⟨_, (pss_one (ps_ret (pe_cmpR op_lt (pv 1) (pe_meth0 (pv 0) T.clShip m_watches G_watches hr_watches b_watches .nil pass0) (nomark _)))), ?_⟩
    refine s_ret (ev_is (ev_op (ev_var rfl) (e_watches (ev_var rfl) S) rv_I0) ?_) fun H1 e1 => k H1 e1
    refine congrArg V.bl (decide_eq_decide.mpr ⟨fun h => by omega, fun h => by omega⟩)
theorem e_has_watch {ta tb : TE} {σ : L2.St} {H : Hp} {a : Addr} {t : Mu43.Turn} {q : Nat} {E : XK} (h : Ev ta σ H (.ref a)) (S : ShipAt C H a t) (hb : Ev tb σ H (.int q)) : Ev (tMeth C "has_watch" (spHasWatch C) [] E ta (tCons tb tNil)) σ H (.bl (decide (q < t.long.length))) := by
  obtain ⟨dx, l, ho, hl⟩ := S.ex
  exact ev_meth h ho (shNo t l (by decide +kernel)) (ea_cons hb ea_nil) fun H1 e Q k E => ⟨a, t, q, rfl, S.mono e, k⟩
theorem p_place_of (Z : Top K mg C CR) : MeP P w K mg base C 2 "place_of" ["self", "day", "watch"] (spPlace C) := by
  obtain ⟨f, fd, F, b, m⟩ := Z.m_Ship_place_of
  obtain ⟨f_watches, fd_watches, G_watches, b_watches, m_watches⟩ := p_watches (P := P) (w := w) (base := base) Z
  have T := Z.T
  refine ⟨f, fd, F.ok sc_Ship_place_of (fun vs H Q E h => ?_) (fun cdv A outer s H vs Q E hr h => ?_), b, m⟩
  · obtain ⟨a, t, d, w, rfl, _⟩ := h
    rfl
  · obtain ⟨a, t, d, ww, rfl, S, O, k⟩ := h
    have nd := sc_Ship_place_of.nd
    have hr_watches : Room 1 _ := hr.mono (by decide)
    refine ⟨_, (pss_one (ps_ret (pe_op op_add (pe_op op_mul (pv 1) (pe_meth0 (pv 0) T.clShip m_watches G_watches hr_watches b_watches .nil pass0)) (pv 2)))), ?_⟩
    have w8 := O.w8
    refine s_ret (ev_op (ev_op (ev_var rfl) (e_watches (ev_var rfl) S) (rv_mul (by omega))) (ev_var rfl) rv_add) fun H1 e1 => k H1 e1
theorem e_place_of {ta tb tc : TE} {σ : L2.St} {H : Hp} {a : Addr} {t : Mu43.Turn} {d w : Nat} {E : XK} (h : Ev ta σ H (.ref a)) (S : ShipAt C H a t) (O : OkT t) (hb : Ev tb σ H (.int d)) (hc : Ev tc σ H (.int w)) : Ev (tMeth C "place_of" (spPlace C) [] E ta (tCons tb (tCons tc tNil))) σ H (.int (Mu43.number t d w : Nat)) := by
  obtain ⟨dx, l, ho, hl⟩ := S.ex
  exact ev_meth h ho (shNo t l (by decide +kernel)) (ea_cons hb (ea_cons hc ea_nil)) fun H1 e Q k E => ⟨a, t, d, w, rfl, S.mono e, O, k⟩
theorem p_day_and_watch (Z : Top K mg C CR) : MeP P w K mg base C 2 "day_and_watch" ["self", "place"] (spDayWatch C) := by
  obtain ⟨f, fd, F, b, m⟩ := Z.m_Ship_day_and_watch
  obtain ⟨f_watches, fd_watches, G_watches, b_watches, m_watches⟩ := p_watches (P := P) (w := w) (base := base) Z
  have T := Z.T
  refine ⟨f, fd, F.ok sc_Ship_day_and_watch (fun vs H Q E h => ?_) (fun cdv A outer s H vs Q E hr h => ?_), b, m⟩
  · obtain ⟨a, t, g, rfl, _⟩ := h
    rfl
  · obtain ⟨a, t, g, rfl, S, O, k⟩ := h
    have nd := sc_Ship_day_and_watch.nd
    have hr_watches : Room 1 _ := hr.mono (by decide)
    refine ⟨_, (pss_one (ps_ret (pe_lst (pa_cons (pe_op op_fdiv (pv 1) (pe_meth0 (pv 0) T.clShip m_watches G_watches hr_watches b_watches .nil pass0)) (pa_cons (pe_op op_mod (pv 1) (pe_meth0 (pv 0) T.clShip m_watches G_watches hr_watches b_watches .nil pass0)) pa_nil))))), ?_⟩
    have w8 := O.w8
    have w2 := O.w2
    exact s_retL (el_lst (ea_cons (ev_op (ev_var rfl) (e_watches (ev_var rfl) S) (rv_fdiv ⟨by omega, by omega⟩)) (ea_cons (ev_op (ev_var rfl) (e_watches (ev_var rfl) S) (rv_mod (by omega))) ea_nil)) (by simp)) k
theorem l_day_and_watch {ta tb : TE} {σ : L2.St} {H : Hp} {a : Addr} {t : Mu43.Turn} {g : Nat} {E : XK} (h : Ev ta σ H (.ref a)) (S : ShipAt C H a t) (O : OkT t) (hb : Ev tb σ H (.int g)) : EvL (tMeth C "day_and_watch" (spDayWatch C) [] E ta (tCons tb tNil)) σ H (vN [g / t.long.length, g % t.long.length]) := by
  obtain ⟨dx, l, ho, hl⟩ := S.ex
  exact el_meth h ho (shNo t l (by decide +kernel)) (ea_cons hb ea_nil) fun H1 e Q k E => ⟨a, t, g, rfl, S.mono e, O, k⟩
theorem p_length_at (Z : Top K mg C CR) : MeP P w K mg base C 2 "length_at" ["self", "place"] (spLength C) := by
  obtain ⟨f, fd, F, b, m⟩ := Z.m_Ship_length_at
  obtain ⟨f_watches, fd_watches, G_watches, b_watches, m_watches⟩ := p_watches (P := P) (w := w) (base := base) Z
  have T := Z.T
  refine ⟨f, fd, F.ok sc_Ship_length_at (fun vs H Q E h => ?_) (fun cdv A outer s H vs Q E hr h => ?_), b, m⟩
  · obtain ⟨a, t, g, rfl, _⟩ := h
    rfl
  · obtain ⟨a, t, g, rfl, S, O, k⟩ := h
    have nd := sc_Ship_length_at.nd
    have hr_watches : Room 1 _ := hr.mono (by decide)
    refine ⟨_, (pss_one (ps_ret (pe_ix ix_list (pe_fld (pv 0) rfl) (pe_op op_mod (pv 1) (pe_meth0 (pv 0) T.clShip m_watches G_watches hr_watches b_watches .nil pass0)) (fun _ _ => rfl)))), ?_⟩
    obtain ⟨dx, l, ho, hl⟩ := S.ex
    have w2 := O.w2
    exact s_ret (ev_op (ev_fld (ev_var rfl) ho T.clShip T.nShip_lengths (shLengths t l)) (ev_op (ev_var rfl) (e_watches (ev_var rfl) S) (rv_mod (by omega))) (rv_ixL (sq_of hl) (atI_int rfl (vN_get (Nat.mod_lt _ (by omega)))))) fun H1 e1 => k H1 e1
theorem e_length_at {ta tb : TE} {σ : L2.St} {H : Hp} {a : Addr} {t : Mu43.Turn} {g : Nat} {E : XK} (h : Ev ta σ H (.ref a)) (S : ShipAt C H a t) (O : OkT t) (hb : Ev tb σ H (.int g)) : Ev (tMeth C "length_at" (spLength C) [] E ta (tCons tb tNil)) σ H (.int (Mu43.hours t g : Nat)) := by
  obtain ⟨dx, l, ho, hl⟩ := S.ex
  exact ev_meth h ho (shNo t l (by decide +kernel)) (ea_cons hb ea_nil) fun H1 e Q k E => ⟨a, t, g, rfl, S.mono e, O, k⟩
theorem p_turn_at (Z : Top K mg C CR) : MeP P w K mg base C 1 "turn_at" ["self", "place"] (spTurnAt C) := by
  obtain ⟨f, fd, F, b, m⟩ := Z.m_Ship_turn_at
  have T := Z.T
  refine ⟨f, fd, F.ok sc_Ship_turn_at (fun vs H Q E h => ?_) (fun cdv A outer s H vs Q E hr h => ?_), b, m⟩
  · obtain ⟨a, t, g, rfl, _⟩ := h
    rfl
  · obtain ⟨a, t, g, rfl, S, O, k⟩ := h
    have nd := sc_Ship_turn_at.nd
    refine ⟨_, (pss_one (ps_ret (pe_op op_mod (pe_op op_add (pe_fld (pv 0) rfl) (pv 1)) (pe_fld (pv 0) rfl)))), ?_⟩
    obtain ⟨dx, l, ho, hl⟩ := S.ex
    have t2 := O.t2
    exact s_ret (ev_op (ev_op (ev_fld (ev_var rfl) ho T.clShip T.nShip_first (shFirst t l)) (ev_var rfl) rv_add) (ev_fld (ev_var rfl) ho T.clShip T.nShip_teams (shTeams t l)) (rv_mod (by omega))) fun H1 e1 => k H1 e1
theorem e_turn_at {ta tb : TE} {σ : L2.St} {H : Hp} {a : Addr} {t : Mu43.Turn} {g : Nat} {E : XK} (h : Ev ta σ H (.ref a)) (S : ShipAt C H a t) (O : OkT t) (hb : Ev tb σ H (.int g)) : Ev (tMeth C "turn_at" (spTurnAt C) [] E ta (tCons tb tNil)) σ H (.int (Mu43.turn t g : Nat)) := by
  obtain ⟨dx, l, ho, hl⟩ := S.ex
  exact ev_meth h ho (shNo t l (by decide +kernel)) (ea_cons hb ea_nil) fun H1 e Q k E => ⟨a, t, g, rfl, S.mono e, O, k⟩
theorem OkT.small {t : Mu43.Turn} (O : OkT t) : 2 ≤ t.teams ∧ t.teams ≤ 5 ∧ 2 ≤ t.long.length ∧ t.long.length ≤ 8 := ⟨O.t2, O.t5, O.w2, O.w8⟩
theorem p_round_days (Z : Top K mg C CR) : MeP P w K mg base C 2 "round_days" ["self"] (spRoundDays C) := by
  obtain ⟨f, fd, F, b, m⟩ := Z.m_Ship_round_days
  obtain ⟨f_days_of_round, fd_days_of_round, G_days_of_round, b_days_of_round, g_days_of_round, kp_days_of_round⟩ := p_days_of_round (P := P) (w := w) (base := base) Z
  obtain ⟨f_watches, fd_watches, G_watches, b_watches, m_watches⟩ := p_watches (P := P) (w := w) (base := base) Z
  have T := Z.T
  refine ⟨f, fd, F.ok sc_Ship_round_days (fun vs H Q E h => ?_) (fun cdv A outer s H vs Q E hr h => ?_), b, m⟩
  · obtain ⟨a, t, rfl, _⟩ := h
    rfl
  · obtain ⟨a, t, rfl, S, O, k⟩ := h
    have nd := sc_Ship_round_days.nd
    have hr_days_of_round : Room 1 _ := hr.mono (by decide)
    have hr_watches : Room 1 _ := hr.mono (by decide)
    refine ⟨_, (pss_one (ps_ret (pe_call G_days_of_round hr_days_of_round (by rfl) g_days_of_round kp_days_of_round b_days_of_round .nil pass0 (pa_cons (pe_fld (pv 0) rfl) (pa_cons (pe_meth0 (pv 0) T.clShip m_watches G_watches hr_watches b_watches .nil pass0) pa_nil))))), ?_⟩
    obtain ⟨dx, l, ho, hl⟩ := S.ex
    exact s_ret (ev_call (dvs := []) (ea_cons (ev_fld (ev_var rfl) ho T.clShip T.nShip_teams (shTeams t l)) (ea_cons (e_watches (ev_var rfl) S) ea_nil)) (v_days O.small)) fun H1 e1 => k H1 e1
theorem e_round_days {ta : TE} {σ : L2.St} {H : Hp} {a : Addr} {t : Mu43.Turn} {E : XK} (h : Ev ta σ H (.ref a)) (S : ShipAt C H a t) (O : OkT t) : Ev (tMeth C "round_days" (spRoundDays C) [] E ta tNil) σ H (.int (Mu43.round t : Nat)) := by
  obtain ⟨dx, l, ho, hl⟩ := S.ex
  exact ev_meth h ho (shNo t l (by decide +kernel)) ea_nil fun H1 e Q k E => ⟨a, t, rfl, S.mono e, O, k⟩
theorem p_is_fair (Z : Top K mg C CR) : MeP P w K mg base C 3 "is_fair" ["self"] (spIsFair C) := by
  obtain ⟨f, fd, F, b, m⟩ := Z.m_Ship_is_fair
  obtain ⟨f_makes_fair_turn, fd_makes_fair_turn, G_makes_fair_turn, b_makes_fair_turn, g_makes_fair_turn, kp_makes_fair_turn⟩ := p_makes_fair_turn (P := P) (w := w) (base := base) Z
  obtain ⟨f_watches, fd_watches, G_watches, b_watches, m_watches⟩ := p_watches (P := P) (w := w) (base := base) Z
  have T := Z.T
  refine ⟨f, fd, F.ok sc_Ship_is_fair (fun vs H Q E h => ?_) (fun cdv A outer s H vs Q E hr h => ?_), b, m⟩
  · obtain ⟨a, t, rfl, _⟩ := h
    rfl
  · obtain ⟨a, t, rfl, S, O, k⟩ := h
    have nd := sc_Ship_is_fair.nd
    have hr_makes_fair_turn : Room 2 _ := hr.mono (by decide)
    have hr_watches : Room 1 _ := hr.mono (by decide)
    refine ⟨_, (pss_one (ps_ret (pe_call G_makes_fair_turn hr_makes_fair_turn (by rfl) g_makes_fair_turn kp_makes_fair_turn b_makes_fair_turn .nil pass0 (pa_cons (pe_fld (pv 0) rfl) (pa_cons (pe_meth0 (pv 0) T.clShip m_watches G_watches hr_watches b_watches .nil pass0) pa_nil))))), ?_⟩
    obtain ⟨dx, l, ho, hl⟩ := S.ex
    exact s_ret (ev_call (dvs := []) (ea_cons (ev_fld (ev_var rfl) ho T.clShip T.nShip_teams (shTeams t l)) (ea_cons (e_watches (ev_var rfl) S) ea_nil)) (v_fairT O.small)) fun H1 e1 => k H1 e1
theorem e_is_fair {ta : TE} {σ : L2.St} {H : Hp} {a : Addr} {t : Mu43.Turn} {E : XK} (h : Ev ta σ H (.ref a)) (S : ShipAt C H a t) (O : OkT t) : Ev (tMeth C "is_fair" (spIsFair C) [] E ta tNil) σ H (.bl (Mu43.fair t)) := by
  obtain ⟨dx, l, ho, hl⟩ := S.ex
  exact ev_meth h ho (shNo t l (by decide +kernel)) ea_nil fun H1 e Q k E => ⟨a, t, rfl, S.mono e, O, k⟩
theorem OkT.few {t : Mu43.Turn} (O : OkT t) : Mu43.round t * Mu43.watches t ≤ 40 := by
  have r2 := O.round.1.2
  have t5 := O.t5
  have w8 := O.w8
  have h : Mu43.round t * t.long.length ≤ 5 * 8 := Nat.mul_le_mul (by omega) w8
  exact h
theorem p_places_in_round (Z : Top K mg C CR) : MeP P w K mg base C 3 "places_in_round" ["self", "team"] (spPlaces C) := by
  obtain ⟨f, fd, F, b, m⟩ := Z.m_Ship_places_in_round
  obtain ⟨f_place_of, fd_place_of, G_place_of, b_place_of, m_place_of⟩ := p_place_of (P := P) (w := w) (base := base) Z
  obtain ⟨f_round_days, fd_round_days, G_round_days, b_round_days, m_round_days⟩ := p_round_days (P := P) (w := w) (base := base) Z
  obtain ⟨f_turn_at, fd_turn_at, G_turn_at, b_turn_at, m_turn_at⟩ := p_turn_at (P := P) (w := w) (base := base) Z
  have T := Z.T
  refine ⟨f, fd, F.ok sc_Ship_places_in_round (fun vs H Q E h => ?_) (fun cdv A outer s H vs Q E hr h => ?_), b, m⟩
  · obtain ⟨a, t, q, rfl, _⟩ := h
    rfl
  · obtain ⟨a, t, q, rfl, S, O, k⟩ := h
    have nd := sc_Ship_places_in_round.nd
    have hr_place_of : Room 2 _ := hr.mono (by decide)
    have hr_round_days : Room 2 _ := hr.mono (by decide)
    have hr_turn_at : Room 1 _ := hr.mono (by decide)
    refine ⟨_, (pss_cons (ps_set (i := 2) nd rfl (Or.inl rfl) (pe_meth (pv 0) T.clShip m_place_of G_place_of hr_place_of b_place_of .nil pass0 (pa_cons (pe_meth0 (pv 0) T.clShip m_round_days G_round_days hr_round_days b_round_days .nil pass0) (pa_cons pe_int pa_nil)))) (pss_one (ps_ret (pe_lc (own := [("place", 3)]) (g := gName 3) (by rfl) nd (pi_range1 (by rfl) T.z_range (pa_cons (pv 2) pa_nil)) (blkOk_by (own := [("place", 3)]) (N := ["self", "team", "end", "place"]) (sc := defScope s_Ship_places_in_round) (by decide +kernel)) (fun _ _ _ _ _ => pg_name (i := 3) nd rfl (Or.inl rfl)) (fun _ _ _ _ _ => by exact (pts_one (pt_cmpR op_eq (pe_meth (pv 0) T.clShip m_turn_at G_turn_at hr_turn_at b_turn_at .nil pass0 (pa_cons (pv 3) pa_nil)) (pv 1) (nomark _)))) (fun _ _ _ _ _ => by exact (pv 3)))))), ?_⟩
    have hf := O.few
    have e0 : Mu43.number t (Mu43.round t) 0 = Mu43.round t * Mu43.watches t := by unfold Mu43.number; omega
    refine q_asg (ev_is (e_place_of (w := 0) (ev_var rfl) S O (e_round_days (ev_var rfl) S O) ev_c) (by rw [e0])) fun H1 e1 => ?_
    refine s_retL (el_is (el_lcR1 (fun g => Mu43.turn t g == q) (fun g => V.int ((g : Nat) : Int)) (ea_cons (ev_var rfl) ea_nil) ⟨by omega, by omega⟩ (fun _ => rfl)
      (fun i H2 e hi => et_is (et_eqI (e_turn_at (ev_var rfl) (S.mono (e1.trans e)) O (ev_var rfl)) (ev_var rfl)) (dec_nat _ _)) (fun i H2 e hi _ => ev_var rfl)) (given_nats _ _ fun j => j)) fun p H2 hp e2 h2 => k p H2 (fresh_back e1 hp) (e1.trans e2) ?_
    rw [h2, Int.toNat_natCast, List.map_id']
    rfl
theorem l_places {ta tb : TE} {σ : L2.St} {H : Hp} {a : Addr} {t : Mu43.Turn} {q : Nat} {E : XK} (h : Ev ta σ H (.ref a)) (S : ShipAt C H a t) (O : OkT t) (hb : Ev tb σ H (.int q)) : EvL (tMeth C "places_in_round" (spPlaces C) [] E ta (tCons tb tNil)) σ H (vN (places t q)) := by
  obtain ⟨dx, l, ho, hl⟩ := S.ex
  exact el_meth h ho (shNo t l (by decide +kernel)) (ea_cons hb ea_nil) fun H1 e Q k E => ⟨a, t, q, rfl, S.mono e, O, k⟩
theorem places_len {t : Mu43.Turn} (O : OkT t) (q : Nat) : (places t q).length ≤ 40 := by
  have h := List.length_filter_le (fun (g : Nat) => Mu43.turn t g == q) (List.range (Mu43.round t * Mu43.watches t))
  rw [List.length_range] at h
  exact Nat.le_trans h O.few
theorem p_hours_in_round (Z : Top K mg C CR) : MeP P w K mg base C 4 "hours_in_round" ["self", "team"] (spHoursInRound C) := by
  obtain ⟨f, fd, F, b, m⟩ := Z.m_Ship_hours_in_round
  obtain ⟨f_length_at, fd_length_at, G_length_at, b_length_at, m_length_at⟩ := p_length_at (P := P) (w := w) (base := base) Z
  obtain ⟨f_places_in_round, fd_places_in_round, G_places_in_round, b_places_in_round, m_places_in_round⟩ := p_places_in_round (P := P) (w := w) (base := base) Z
  have T := Z.T
  refine ⟨f, fd, F.ok sc_Ship_hours_in_round (fun vs H Q E h => ?_) (fun cdv A outer s H vs Q E hr h => ?_), b, m⟩
  · obtain ⟨a, t, q, rfl, _⟩ := h
    rfl
  · obtain ⟨a, t, q, rfl, S, O, k⟩ := h
    have nd := sc_Ship_hours_in_round.nd
    have hr_length_at : Room 2 _ := hr.mono (by decide)
    have hr_places_in_round : Room 3 _ := hr.mono (by decide)
    refine ⟨_, (pss_one (ps_ret (pe_callB (cr_sum rfl) (by rfl) T.z_sum (by decide +kernel) (pa_cons (pe_lc (own := [("place", 2)]) (g := gName 2) (by rfl) nd (pi_list (pe_meth (pv 0) T.clShip m_places_in_round G_places_in_round hr_places_in_round b_places_in_round .nil pass0 (pa_cons (pv 1) pa_nil))) (blkOk_by (own := [("place", 2)]) (N := ["self", "team", "place"]) (sc := defScope s_Ship_hours_in_round) (by decide +kernel)) (fun _ _ _ _ _ => pg_name (i := 2) nd rfl (Or.inl rfl)) (fun _ _ _ _ _ => by exact pts_nil) (fun _ _ _ _ _ => by exact (pe_meth (pv 0) T.clShip m_length_at G_length_at hr_length_at b_length_at .nil pass0 (pa_cons (pv 2) pa_nil)))) pa_nil)))), ?_⟩
    have hl := places_len O q
    refine s_ret (ev_sumNat (el_is (el_lcNL (fun _ => true) (fun i => V.int ((Mu43.hours t ((places t q).getD i 0) : Nat) : Int)) (l_places (ev_var rfl) S O (ev_var rfl)) (by rw [vN_len]; omega) (fun _ => rfl) (fun i x H1 e hi => et_yes) (fun i x H1 e hi _ => ?_)) (given_all _ _))) fun H1 e1 => ?_
    · obtain ⟨_, rfl⟩ := vN_at hi
      exact e_length_at (ev_var rfl) (S.mono e) O (ev_var rfl)
    · rw [vN_len, map_getD (places t q) fun g => Mu43.hours t g]
      unfold places
      rw [sum_filter]
      have e2 : Mu43.share t q (Mu43.round t * Mu43.watches t) 0 = ((List.range (Mu43.round t * Mu43.watches t)).map fun i => if (Mu43.turn t i == q) = true then Mu43.hours t i else 0).sum := by
        unfold Mu43.share
        rw [total_sum]
        refine congrArg List.sum (map_range_congr fun i _ => ?_)
        rw [Nat.zero_add]
        simp
      rw [← e2]
      exact k H1 e1
theorem e_hours_in_round {ta tb : TE} {σ : L2.St} {H : Hp} {a : Addr} {t : Mu43.Turn} {q : Nat} {E : XK} (h : Ev ta σ H (.ref a)) (S : ShipAt C H a t) (O : OkT t) (hb : Ev tb σ H (.int q)) : Ev (tMeth C "hours_in_round" (spHoursInRound C) [] E ta (tCons tb tNil)) σ H (.int (Mu43.share t q (Mu43.round t * Mu43.watches t) 0 : Nat)) := by
  obtain ⟨dx, l, ho, hl⟩ := S.ex
  exact ev_meth h ho (shNo t l (by decide +kernel)) (ea_cons hb ea_nil) fun H1 e Q k E => ⟨a, t, q, rfl, S.mono e, O, k⟩
theorem p_rest_behind (Z : Top K mg C CR) : MeP P w K mg base C 3 "rest_behind" ["self", "place"] (spRestBehind C) := by
  obtain ⟨f, fd, F, b, m⟩ := Z.m_Ship_rest_behind
  obtain ⟨f_length_at, fd_length_at, G_length_at, b_length_at, m_length_at⟩ := p_length_at (P := P) (w := w) (base := base) Z
  have T := Z.T
  refine ⟨f, fd, F.ok sc_Ship_rest_behind (fun vs H Q E h => ?_) (fun cdv A outer s H vs Q E hr h => ?_), b, m⟩
  · obtain ⟨a, t, g, rfl, _⟩ := h
    rfl
  · obtain ⟨a, t, g, rfl, S, O, k⟩ := h
    have nd := sc_Ship_rest_behind.nd
    have hr_length_at : Room 2 _ := hr.mono (by decide)
    refine ⟨_, (pss_one (ps_ret (pe_callB (cr_sum rfl) (by rfl) T.z_sum (by decide +kernel) (pa_cons (pe_lc (own := [("step", 2)]) (g := gName 2) (by rfl) nd (pi_range2 (by rfl) T.z_range (pa_cons pe_int (pa_cons (pe_fld (pv 0) rfl) pa_nil))) (blkOk_by (own := [("step", 2)]) (N := ["self", "place", "step"]) (sc := defScope s_Ship_rest_behind) (by decide +kernel)) (fun _ _ _ _ _ => pg_name (i := 2) nd rfl (Or.inl rfl)) (fun _ _ _ _ _ => by exact pts_nil) (fun _ _ _ _ _ => by exact (pe_meth (pv 0) T.clShip m_length_at G_length_at hr_length_at b_length_at .nil pass0 (pa_cons (pe_op op_add (pv 1) (pv 2)) pa_nil)))) pa_nil)))), ?_⟩
    obtain ⟨dx, l, ho, hl⟩ := S.ex
    have t5 := O.t5
    have t2 := O.t2
    refine s_ret (ev_sumNat (el_is (el_lcR2 (fun _ => true) (fun i => V.int ((Mu43.hours t (g + 1 + i) : Nat) : Int)) (ea_cons ev_c (ea_cons (ev_fld (ev_var rfl) ho T.clShip T.nShip_teams (shTeams t l)) ea_nil)) ⟨by omega, by omega, by omega, by omega, by omega⟩ (fun _ => rfl) (fun i H1 e hi => et_yes)
      (fun i H1 e hi _ => e_length_at (ev_var rfl) (S.mono e) O (ev_is (ev_op (ev_var rfl) (ev_var rfl) rv_I0) (congrArg V.int (by omega))))) (given_all _ _))) fun H1 e1 => ?_
    have e4 : ((t.teams : Int) - 1).toNat = t.teams - 1 := by omega
    have e5 : ((List.range (t.teams - 1)).map fun i => Mu43.hours t (g + 1 + i)).sum = Mu43.rest t g := by
      unfold Mu43.rest
      rw [total_sum]
    rw [e4, e5]
    exact k H1 e1
theorem e_rest_behind {ta tb : TE} {σ : L2.St} {H : Hp} {a : Addr} {t : Mu43.Turn} {g : Nat} {E : XK} (h : Ev ta σ H (.ref a)) (S : ShipAt C H a t) (O : OkT t) (hb : Ev tb σ H (.int g)) : Ev (tMeth C "rest_behind" (spRestBehind C) [] E ta (tCons tb tNil)) σ H (.int (Mu43.rest t g : Nat)) := by
  obtain ⟨dx, l, ho, hl⟩ := S.ex
  exact ev_meth h ho (shNo t l (by decide +kernel)) (ea_cons hb ea_nil) fun H1 e Q k E => ⟨a, t, g, rfl, S.mono e, O, k⟩
theorem p_rests_of (Z : Top K mg C CR) : MeP P w K mg base C 4 "rests_of" ["self", "team"] (spRestsOf C) := by
  obtain ⟨f, fd, F, b, m⟩ := Z.m_Ship_rests_of
  obtain ⟨f_rest_behind, fd_rest_behind, G_rest_behind, b_rest_behind, m_rest_behind⟩ := p_rest_behind (P := P) (w := w) (base := base) Z
  obtain ⟨f_places_in_round, fd_places_in_round, G_places_in_round, b_places_in_round, m_places_in_round⟩ := p_places_in_round (P := P) (w := w) (base := base) Z
  have T := Z.T
  refine ⟨f, fd, F.ok sc_Ship_rests_of (fun vs H Q E h => ?_) (fun cdv A outer s H vs Q E hr h => ?_), b, m⟩
  · obtain ⟨a, t, q, rfl, _⟩ := h
    rfl
  · obtain ⟨a, t, q, rfl, S, O, k⟩ := h
    have nd := sc_Ship_rests_of.nd
    have hr_rest_behind : Room 3 _ := hr.mono (by decide)
    have hr_places_in_round : Room 3 _ := hr.mono (by decide)
    refine ⟨_, (pss_one (ps_ret (pe_lc (own := [("place", 2)]) (g := gName 2) (by rfl) nd (pi_list (pe_meth (pv 0) T.clShip m_places_in_round G_places_in_round hr_places_in_round b_places_in_round .nil pass0 (pa_cons (pv 1) pa_nil))) (blkOk_by (own := [("place", 2)]) (N := ["self", "team", "place"]) (sc := defScope s_Ship_rests_of) (by decide +kernel)) (fun _ _ _ _ _ => pg_name (i := 2) nd rfl (Or.inl rfl)) (fun _ _ _ _ _ => by exact pts_nil) (fun _ _ _ _ _ => by exact (pe_meth (pv 0) T.clShip m_rest_behind G_rest_behind hr_rest_behind b_rest_behind .nil pass0 (pa_cons (pv 2) pa_nil)))))), ?_⟩
    have hl := places_len O q
    refine s_retL (el_is (el_lcNL (fun _ => true) (fun i => V.int ((Mu43.rest t ((places t q).getD i 0) : Nat) : Int)) (l_places (ev_var rfl) S O (ev_var rfl)) (by rw [vN_len]; omega) (fun _ => rfl) (fun i x H1 e hi => et_yes) (fun i x H1 e hi _ => ?_)) (given_all _ _)) fun p H2 hp e2 h2 => k p H2 hp e2 ?_
    · obtain ⟨_, rfl⟩ := vN_at hi
      exact e_rest_behind (ev_var rfl) (S.mono e) O (ev_var rfl)
    · rw [h2, vN_len, map_getD (places t q) fun g => Mu43.rest t g]
      rfl
theorem l_rests_of {ta tb : TE} {σ : L2.St} {H : Hp} {a : Addr} {t : Mu43.Turn} {q : Nat} {E : XK} (h : Ev ta σ H (.ref a)) (S : ShipAt C H a t) (O : OkT t) (hb : Ev tb σ H (.int q)) : EvL (tMeth C "rests_of" (spRestsOf C) [] E ta (tCons tb tNil)) σ H (vN (Mu43.rests t q)) := by
  obtain ⟨dx, l, ho, hl⟩ := S.ex
  exact el_meth h ho (shNo t l (by decide +kernel)) (ea_cons hb ea_nil) fun H1 e Q k E => ⟨a, t, q, rfl, S.mono e, O, k⟩
theorem p_day_it_comes (Z : Top K mg C CR) : MeP P w K mg base C 3 "day_it_comes" ["self", "team", "watch", "day"] (spComesDay C) := by
  obtain ⟨f, fd, F, b, m⟩ := Z.m_Ship_day_it_comes
  obtain ⟨f_round_days, fd_round_days, G_round_days, b_round_days, m_round_days⟩ := p_round_days (P := P) (w := w) (base := base) Z
  obtain ⟨f_turn_at, fd_turn_at, G_turn_at, b_turn_at, m_turn_at⟩ := p_turn_at (P := P) (w := w) (base := base) Z
  obtain ⟨f_place_of, fd_place_of, G_place_of, b_place_of, m_place_of⟩ := p_place_of (P := P) (w := w) (base := base) Z
  have T := Z.T
  refine ⟨f, fd, F.ok sc_Ship_day_it_comes (fun vs H Q E h => ?_) (fun cdv A outer s H vs Q E hr h => ?_), b, m⟩
  · obtain ⟨a, t, q, w, d, rfl, _⟩ := h
    rfl
  · obtain ⟨a, t, q, ww, d, rfl, S, O, hd, k⟩ := h
    have nd := sc_Ship_day_it_comes.nd
    have hr_round_days : Room 2 _ := hr.mono (by decide)
    have hr_turn_at : Room 1 _ := hr.mono (by decide)
    have hr_place_of : Room 2 _ := hr.mono (by decide)
    refine ⟨_, (pss_cons (ps_for PassesOwn.never rfl (pi_range2 (by rfl) T.z_range (pa_cons (pv 3) (pa_cons (pe_op op_add (pv 3) (pe_meth0 (pv 0) T.clShip m_round_days G_round_days hr_round_days b_round_days .nil pass0)) pa_nil))) (pg_name (i := 4) nd rfl (Or.inl rfl)) (pss_one (ps_if (pt_cmpR op_eq (pe_meth (pv 0) T.clShip m_turn_at G_turn_at hr_turn_at b_turn_at .nil pass0 (pa_cons (pe_meth (pv 0) T.clShip m_place_of G_place_of hr_place_of b_place_of .nil pass0 (pa_cons (pv 4) (pa_cons (pv 2) pa_nil))) pa_nil)) (pv 1) (nomark _)) (pss_one (ps_ret (pv 4))) pss_nil))) (pss_one (ps_ret pe_non))), ?_⟩
    have t5 := O.t5
    have r2 := O.round.1.2
    refine q_forR2 (ea_cons (ev_var rfl) (ea_cons (ev_op (ev_var rfl) (e_round_days (ev_var rfl) S O) rv_I0) ea_nil)) ⟨by omega, by omega, by omega, by omega⟩
      (fun i σ' H' => ∃ v : Option V, σ' = [some (.ref a), some (.int q), some (.int ww), some (.int d), v] ∧ Ex H H' ∧ ∀ j, j < i → Mu43.turn t (Mu43.number t (d + j) ww) ≠ q) (fun H1 e1 => ⟨none, rfl, e1, fun j hj => absurd hj (by omega)⟩) ?_ ?_
    · rintro i σ' H' hi ⟨v, rfl, e, hno⟩
      refine s_when (et_is (et_eqI (e_turn_at (ev_var rfl) (S.mono e) O (e_place_of (d := d + i) (ev_var rfl) (S.mono e) O (ev_is (ev_var rfl) (congrArg V.int (by omega))) (ev_var rfl))) (ev_var rfl)) (dec_nat _ _)) (fun hb H2 e2 => ?_) (fun hb H2 e2 => ?_)
      · have hc := comes_some O (j := i) (by omega) hno (of_decide_eq_true hb)
        rw [hc] at k
        exact s_ret (ev_is (ev_var rfl) (congrArg V.int (by omega))) fun H3 e3 => k H3 ((e.trans e2).trans e3)
      · refine ⟨_, rfl, e.trans e2, fun j hj => ?_⟩
        rcases Nat.lt_or_ge j i with c | c
        · exact hno j c
        · have ej : j = i := by omega
          rw [ej]
          exact of_decide_eq_false hb
    · rintro σ' H' ⟨v, rfl, e, hno⟩
      have hc := comes_none O (q := q) (w := ww) (d := d) fun j hj => hno j (by omega)
      rw [hc] at k
      exact s_ret ev_c fun H3 e3 => k H3 (e.trans e3)
theorem e_day_it_comes {ta tb tc td : TE} {σ : L2.St} {H : Hp} {a : Addr} {t : Mu43.Turn} {q w d : Nat} {E : XK} (h : Ev ta σ H (.ref a)) (S : ShipAt C H a t) (O : OkT t) (hb : Ev tb σ H (.int q)) (hc : Ev tc σ H (.int w)) (hd : Ev td σ H (.int d)) (h3 : d ≤ 300) : Ev (tMeth C "day_it_comes" (spComesDay C) [] E ta (tCons tb (tCons tc (tCons td tNil)))) σ H (vOpt (Mu43.comes t q w d)) := by
  obtain ⟨dx, l, ho, hl⟩ := S.ex
  exact ev_meth h ho (shNo t l (by decide +kernel)) (ea_cons hb (ea_cons hc (ea_cons hd ea_nil))) fun H1 e Q k E => ⟨a, t, q, w, d, rfl, S.mono e, O, h3, k⟩
end
end Sw


namespace Sw
open PySem PySem.Spec PyProof.Rows L2 Evl
def spMore (K : PySem.W.Frag) : Sp := fun vs H Q _ => ∃ (b : Addr) (v : List Nat) (n lo hi : Nat), vs = [.ref b, .int n, .int lo, .int hi] ∧ SqL K H b (vN v) ∧ v.length = 25 ∧ (n ≤ 24 ∧ lo ≤ 30 ∧ hi ≤ 24) ∧ RetV (.int (((List.range (min hi n + 1 - lo)).map fun i => v.getD (n - (lo + i)) 0).sum : Nat)) H Q
def spCountCuts : Sp := fun vs H Q _ => ∃ (k lo hi : Nat), vs = [.int k, .int lo, .int hi] ∧ (k ≤ 8 ∧ lo ≤ 30 ∧ hi ≤ 24) ∧ RetV (.int (Mu43.ways lo hi k 24 : Nat)) H Q
def spFirstCut : Sp := fun vs H Q _ => ∃ (k lo hi : Nat), vs = [.int k, .int lo, .int hi] ∧ (k ≤ 8 ∧ lo ≤ 30 ∧ hi ≤ 24) ∧ k * lo ≤ 24 ∧ 24 ≤ k * hi ∧ RetL (vN (Mu43.cut lo hi k 24)) H Q
def spKinds : Sp := fun vs H Q _ => ∃ (n : Nat), vs = [.int n] ∧ 2 ≤ n ∧ n ≤ 5 ∧ RetL (vN ([2, 3, 4, 5, 6, 7, 8].filter fun (k : Nat) => Nat.gcd n k == 1)) H Q
section
variable {P : Program} {w : World} {K : PySem.W.Frag} {mg : Str → Option Value} {base : Heap} {C CR : Addr}
theorem p_ways_with_one_more (Z : Top K mg C CR) : FnP P w K mg base 1 "ways_with_one_more" ["ways", "hours", "least", "most"] (spMore K) := by
  obtain ⟨f, fd, F, b, m, kp⟩ := Z.f_ways_with_one_more
  have T := Z.T
  refine ⟨f, fd, F.ok sc_ways_with_one_more (fun vs H Q E h => ?_) (fun cdv A outer s H vs Q E hr h => ?_), b, m, kp⟩
  · obtain ⟨b, v, n, lo, hi, rfl, _⟩ := h
    rfl
  · obtain ⟨b, v, n, lo, hi, rfl, hs, hv, ⟨hn, hlo, hhi⟩, k⟩ := h
    have nd := sc_ways_with_one_more.nd
    refine ⟨_, (pss_one (ps_ret (pe_callB (cr_sum rfl) (by rfl) T.z_sum (by decide +kernel) (pa_cons (pe_lc (own := [("length", 4)]) (g := gName 4) (te := (tOp (rIxL K) _ _)) (by rfl) nd (pi_range2 (by rfl) T.z_range (pa_cons (pv 2) (pa_cons (pe_op op_add (pe_callB (call_min2 rfl) (by rfl) T.z_min (by decide +kernel) (pa_cons (pv 3) (pa_cons (pv 1) pa_nil))) pe_int) pa_nil))) (blkOk_by (own := [("length", 4)]) (N := ["ways", "hours", "least", "most", "length"]) (sc := defScope s_ways_with_one_more) (by decide +kernel)) (fun _ _ _ _ _ => pg_name (i := 4) nd rfl (Or.inl rfl)) (fun _ _ _ _ _ => by exact pts_nil) (fun _ _ _ _ _ => by exact (pe_ix ix_list (pv 0) (pe_op op_sub (pv 1) (pv 4)) (fun _ _ => rfl)))) pa_nil)))), ?_⟩
    have em : ∀ H, Ev (tOp (rI0 fun i j => .int (i + j)) (tCB (fun xs H Q => ∃ i j, xs = [.int i, .int j] ∧ Q (.int (if j < i then j else i)) H) (tCons (tVar 3) (tCons (tVar 1) tNil))) (tC (.int 1))) [some (.ref b), some (.int n), some (.int lo), some (.int hi), none] H (.int ((min hi n + 1 : Nat) : Int)) := fun H =>
      ev_is (ev_op (ev_min2 (ev_var rfl) (ev_var rfl)) ev_c rv_I0) (by
        refine congrArg V.int ?_
        split <;> omega)
    refine s_ret (ev_sumNat (el_is (el_lcR2 (fun _ => true) (fun i => V.int ((v.getD (n - (lo + i)) 0 : Nat) : Int)) (ea_cons (ev_var rfl) (ea_cons (em _) ea_nil)) ⟨by omega, by omega, by omega, by omega, by omega⟩ (fun _ => rfl) (fun i H1 e hi => et_yes)
      (fun i H1 e hi _ => ev_op (ev_var rfl) (ev_op (ev_var rfl) (ev_var rfl) rv_I0) (rv_ixL (ex_l e hs) (atI_int (j := n - (lo + i)) (by omega) (vN_get (by omega)))))) (given_all _ _))) fun H1 e1 => ?_
    rw [show (((min hi n + 1 : Nat) : Int) - (lo : Int)).toNat = min hi n + 1 - lo by omega]
    exact k H1 e1
theorem v_more {H : Hp} {b : Addr} {v : List Nat} {n lo hi : Nat} (hs : SqL K H b (vN v)) (hv : v.length = 25) (hh : n ≤ 24 ∧ lo ≤ 30 ∧ hi ≤ 24) : SpV (spMore K) [.ref b, .int n, .int lo, .int hi] H (.int (((List.range (min hi n + 1 - lo)).map fun i => v.getD (n - (lo + i)) 0).sum : Nat)) := fun H1 e Q q E => ⟨b, v, n, lo, hi, rfl, ex_l e hs, hv, hh, q⟩
theorem p_count_of_cuts (Z : Top K mg C CR) : FnP P w K mg base 2 "count_of_cuts" ["watches", "least", "most"] spCountCuts := by
  obtain ⟨f, fd, F, b, m, kp⟩ := Z.f_count_of_cuts
  obtain ⟨f_ways_with_one_more, fd_ways_with_one_more, G_ways_with_one_more, b_ways_with_one_more, g_ways_with_one_more, kp_ways_with_one_more⟩ := p_ways_with_one_more (P := P) (w := w) (base := base) Z
  have T := Z.T
  obtain ⟨_, c_DAY_HOURS⟩ := T.c_DAY_HOURS
  refine ⟨f, fd, F.ok sc_count_of_cuts (fun vs H Q E h => ?_) (fun cdv A outer s H vs Q E hr h => ?_), b, m, kp⟩
  · obtain ⟨k, lo, hi, rfl, _⟩ := h
    rfl
  · obtain ⟨kk, lo, hi, rfl, ⟨hk, hlo, hhi⟩, k⟩ := h
    have nd := sc_count_of_cuts.nd
    have hr_ways_with_one_more : Room 1 _ := hr.mono (by decide)
    refine ⟨_, (pss_cons (ps_set (i := 3) nd rfl (Or.inr rfl) (pe_op op_cat (pe_lst (pa_cons pe_int pa_nil)) (pe_op op_rep (pe_lst (pa_cons pe_int pa_nil)) (pe_gint rfl c_DAY_HOURS)))) (pss_cons (ps_for PassesOwn.never rfl (pi_range1 (by rfl) T.z_range (pa_cons (pv 0) pa_nil)) (pg_name (i := 4) nd rfl (Or.inl rfl)) (pss_one (ps_set (i := 3) nd rfl (Or.inr rfl) (pe_lc (own := [("hours", 5)]) (g := gName 5) (by rfl) nd (pi_range1 (by rfl) T.z_range (pa_cons (pe_op op_add (pe_gint rfl c_DAY_HOURS) pe_int) pa_nil)) (blkOk_by (own := [("hours", 5)]) (N := ["watches", "least", "most", "ways", "done", "hours"]) (sc := defScope s_count_of_cuts) (by decide +kernel)) (fun _ _ _ _ _ => pg_name (i := 5) nd rfl (Or.inl rfl)) (fun _ _ _ _ _ => by exact pts_nil) (fun _ _ _ _ _ => by exact (pe_call G_ways_with_one_more hr_ways_with_one_more (by rfl) g_ways_with_one_more kp_ways_with_one_more b_ways_with_one_more .nil pass0 (pa_cons (pv 3) (pa_cons (pv 5) (pa_cons (pv 1) (pa_cons (pv 2) pa_nil)))))))))) (pss_one (ps_ret (pe_ix ix_list (pv 3) (pe_gint rfl c_DAY_HOURS) (fun _ _ => rfl)))))), ?_⟩
    refine q_asgL (el_is (el_cat (el_lst (ea_cons ev_c ea_nil) (by simp)) (el_rep (n := 24) (el_lst (ea_cons ev_c ea_nil) (by simp)) ev_c (by decide) (by simp)) (by simp)) (show _ = vN (Mu43.waysTable lo hi 0) by rw [table_zero]; rfl)) fun p H1 hp e1 h1 => ?_
    refine q_forR1 (ea_cons (ev_var rfl) ea_nil) ⟨by omega, by omega⟩
      (fun i σ' H' => ∃ (p : Addr) (v u : Option V), σ' = [some (.int kk), some (.int lo), some (.int hi), some (.ref p), v, u] ∧ Ex H H' ∧ H' p = some (.lst (vN (Mu43.waysTable lo hi i)))) (fun H2 e2 => ⟨p, none, none, rfl, e1.trans e2, e2 _ _ h1⟩) ?_ ?_
    · rintro i σ' H' hi2 ⟨p, v, u, rfl, e, h2⟩
      refine s_asgL (el_is (el_lcR1 (n := 25) (fun _ => true) (fun n => V.int ((((List.range (min hi n + 1 - lo)).map fun i' => (Mu43.waysTable lo hi i).getD (n - (lo + i')) 0).sum : Nat) : Int)) (ea_cons (ev_op ev_c ev_c rv_I0) ea_nil) ⟨by omega, by omega⟩ (fun _ => rfl) (fun n H3 e3 hn => et_yes)
        (fun n H3 e3 hn _ => ev_call (dvs := []) (ea_cons (ev_var rfl) (ea_cons (ev_var rfl) (ea_cons (ev_var rfl) (ea_cons (ev_var rfl) ea_nil)))) (v_more (sq_of (e3 _ _ h2)) (table_len lo hi i) ⟨by omega, hlo, hhi⟩))) (given_all _ _)) fun q H3 hq e3 h3 => ?_
      refine ⟨q, _, _, rfl, e.trans e3, ?_⟩
      rw [h3, table_succ]
      rfl
    · rintro σ' H' ⟨p, v, u, rfl, e, h2⟩
      rw [Int.toNat_natCast] at h2
      refine s_ret (ev_op (ev_var rfl) ev_c (rv_ixL (sq_of h2) (atI_int (j := 24) rfl (vN_get (by rw [table_len]; omega))))) fun H3 e3 => k H3 (e.trans e3)
theorem v_count_cuts {H : Hp} {k lo hi : Nat} (hh : k ≤ 8 ∧ lo ≤ 30 ∧ hi ≤ 24) : SpV spCountCuts [.int k, .int lo, .int hi] H (.int (Mu43.ways lo hi k 24 : Nat)) := fun H1 e Q q E => ⟨k, lo, hi, rfl, hh, q⟩
theorem p_first_cut (Z : Top K mg C CR) : FnP P w K mg base 1 "first_cut" ["watches", "least", "most"] spFirstCut := by
  obtain ⟨f, fd, F, b, m, kp⟩ := Z.f_first_cut
  have T := Z.T
  obtain ⟨_, c_DAY_HOURS⟩ := T.c_DAY_HOURS
  refine ⟨f, fd, F.ok sc_first_cut (fun vs H Q E h => ?_) (fun cdv A outer s H vs Q E hr h => ?_), b, m, kp⟩
  · obtain ⟨k, lo, hi, rfl, _⟩ := h
    rfl
  · obtain ⟨kk, lo, hi, rfl, ⟨hk, hlo, hhi⟩, hl, hm, k⟩ := h
    have nd := sc_first_cut.nd
    refine ⟨_, (pss_cons (ps_set (i := 3) nd rfl (Or.inl rfl) (pe_lst pa_nil)) (pss_cons (ps_set (i := 4) nd rfl (Or.inl rfl) (pe_gint rfl c_DAY_HOURS)) (pss_cons (ps_while PassesOwn.never (pt_cmpR op_lt (pe_callB call_len_seq (by rfl) T.z_len (by decide +kernel) (pa_cons (pv 3) pa_nil)) (pv 0) (nomark _)) (pss_cons (ps_set (i := 5) nd rfl (Or.inl rfl) (pe_op op_sub (pe_op op_sub (pv 0) (pe_callB call_len_seq (by rfl) T.z_len (by decide +kernel) (pa_cons (pv 3) pa_nil))) pe_int)) (pss_cons (ps_set (i := 6) nd rfl (Or.inl rfl) (pe_callB (call_max2 rfl) (by rfl) T.z_max (by decide +kernel) (pa_cons (pv 1) (pa_cons (pe_op op_sub (pv 4) (pe_op op_mul (pv 5) (pv 2))) pa_nil)))) (pss_cons (ps_expr (pe_bm PySem.F.plainAttrs_list PySem.F.slot_list_append PySem.F.type_list_append mt_append (pv 3) (pa_cons (pv 6) pa_nil))) (pss_one (ps_set (i := 4) nd rfl (Or.inl rfl) (pe_op op_sub (pv 4) (pv 6)))))))) (pss_one (ps_ret (pv 3)))))), ?_⟩
    refine q_asgL (el_lst ea_nil (by decide)) fun p H1 hp e1 h1 => ?_
    refine q_asg ev_c fun H2 e2 => ?_
    refine q_while (fun m σ' H' => ∃ (c : List Nat) (n : Nat) (x5 x6 : Option V), c.length + m = kk ∧ n ≤ 24 ∧ m * lo ≤ n ∧ n ≤ m * hi ∧ c ++ Mu43.cut lo hi m n = Mu43.cut lo hi kk 24 ∧ σ' = [some (.int kk), some (.int lo), some (.int hi), some (.ref p), some (.int (n : Int)), x5, x6] ∧ Ex H H' ∧ H' p = some (.lst (vN c))) kk
      ⟨[], 24, none, none, by simp, by omega, hl, hm, rfl, rfl, e1.trans e2, e2 _ _ h1⟩ ?_
    rintro m σ' H' ⟨c, n, x5, x6, hc, hn, h3, h4, h5, rfl, e, h6⟩
    refine ⟨_, et_I0 (ev_len (ev_var rfl) (sq_of h6)) (ev_var rfl), fun hb H4 e4 => ?_, fun hb H4 e4 => ?_⟩
    · rw [vN_len] at hb
      have hlt := of_decide_eq_true hb
      obtain ⟨m', rfl⟩ : ∃ m', m = m' + 1 := ⟨m - 1, by omega⟩
      obtain ⟨q1, q2, q3, q4, q5⟩ := pick_ok h3 h4
      have hcut := cut_step hn h3 h4
      refine ⟨fun σ2 H2' => ∃ m2, m2 < m' + 1 ∧ ∃ (c : List Nat) (n : Nat) (x5 x6 : Option V), c.length + m2 = kk ∧ n ≤ 24 ∧ m2 * lo ≤ n ∧ n ≤ m2 * hi ∧ c ++ Mu43.cut lo hi m2 n = Mu43.cut lo hi kk 24 ∧ σ2 = [some (.int kk), some (.int lo), some (.int hi), some (.ref p), some (.int (n : Int)), x5, x6] ∧ Ex H H2' ∧ H2' p = some (.lst (vN c)), fun _ _ h => h, ?_⟩
      refine q_asg (ev_is (ev_op (ev_op (ev_var rfl) (ev_len (ev_var rfl) (sq_of (e4 _ _ h6))) rv_I0) ev_c rv_I0) (show _ = V.int (m' : Int) from congrArg V.int (by rw [vN_len]; omega))) fun H5 e5 => ?_
      refine q_asg (ev_is (ev_max2 (ev_var rfl) (ev_op (ev_var rfl) (ev_op (ev_var rfl) (ev_var rfl) (rv_mul (by omega))) rv_I0)) (show _ = V.int ((max lo (n - m' * hi) : Nat) : Int) from congrArg V.int (by
        generalize m' * hi = z
        split <;> omega))) fun H6 e6 => ?_
      have e46 := (e4.trans e5).trans e6
      refine q_app (e46 _ _ h6) (ev_var rfl) (ev_var rfl) (by rw [vN_len]; omega) fun H7 e7 => ?_
      refine s_asg (ev_op (ev_var rfl) (ev_var rfl) rv_I0) fun H8 e8 => ?_
      refine ⟨m', by omega, c ++ [max lo (n - m' * hi)], n - max lo (n - m' * hi), some (.int (m' : Int)), some (.int ((max lo (n - m' * hi) : Nat) : Int)), by rw [List.length_append, List.length_singleton]; omega, by omega, q4, q5, ?_, ?_, (Ex.mut ((e.trans e46).trans e7) hp).trans e8, ?_⟩
      · rw [← h5, hcut, List.append_assoc]
        rfl
      · rw [show ((n : Int) - ((max lo (n - m' * hi) : Nat) : Int)) = ((n - max lo (n - m' * hi) : Nat) : Int) by omega]
        rfl
      · refine e8 _ _ ?_
        rw [upd_same]
        unfold vN
        rw [List.map_append]
        rfl
    · rw [vN_len] at hb
      have hge := of_decide_eq_false hb
      have hm0 : m = 0 := by omega
      subst hm0
      have e9 : c = Mu43.cut lo hi kk 24 := by
        rw [← h5]
        simp [Mu43.cut]
      refine s_ret (ev_var rfl) fun H5 e5 => k p H5 hp ((e.trans e4).trans e5) ?_
      rw [← e9]
      exact e5 _ _ (e4 _ _ h6)
theorem l_first_cut {H : Hp} {k lo hi : Nat} (hh : k ≤ 8 ∧ lo ≤ 30 ∧ hi ≤ 24) (h1 : k * lo ≤ 24) (h2 : 24 ≤ k * hi) : SpL spFirstCut [.int k, .int lo, .int hi] H (vN (Mu43.cut lo hi k 24)) := fun H1 e Q q E => ⟨k, lo, hi, rfl, hh, h1, h2, q⟩
theorem p_fair_kinds (Z : Top K mg C CR) : FnP P w K mg base 3 "fair_kinds" ["teams"] spKinds := by
  obtain ⟨f, fd, F, b, m, kp⟩ := Z.f_fair_kinds
  obtain ⟨f_makes_fair_turn, fd_makes_fair_turn, G_makes_fair_turn, b_makes_fair_turn, g_makes_fair_turn, kp_makes_fair_turn⟩ := p_makes_fair_turn (P := P) (w := w) (base := base) Z
  have T := Z.T
  obtain ⟨_, c_FEWEST_WATCHES⟩ := T.c_FEWEST_WATCHES
  obtain ⟨_, c_MOST_WATCHES⟩ := T.c_MOST_WATCHES
  refine ⟨f, fd, F.ok sc_fair_kinds (fun vs H Q E h => ?_) (fun cdv A outer s H vs Q E hr h => ?_), b, m, kp⟩
  · obtain ⟨n, rfl, _⟩ := h
    rfl
  · obtain ⟨n, rfl, h2, h5, k⟩ := h
    have nd := sc_fair_kinds.nd
    have hr_makes_fair_turn : Room 2 _ := hr.mono (by decide)
    refine ⟨_, (pss_one (ps_ret (pe_lc (own := [("watches", 1)]) (g := gName 1) (by rfl) nd (pi_range2 (by rfl) T.z_range (pa_cons (pe_gint rfl c_FEWEST_WATCHES) (pa_cons (pe_op op_add (pe_gint rfl c_MOST_WATCHES) pe_int) pa_nil))) (blkOk_by (own := [("watches", 1)]) (N := ["teams", "watches"]) (sc := defScope s_fair_kinds) (by decide +kernel)) (fun _ _ _ _ _ => pg_name (i := 1) nd rfl (Or.inl rfl)) (fun _ _ _ _ _ => by exact (pts_one (pt_val (pe_call G_makes_fair_turn hr_makes_fair_turn (by rfl) g_makes_fair_turn kp_makes_fair_turn b_makes_fair_turn .nil pass0 (pa_cons (pv 0) (pa_cons (pv 1) pa_nil)))))) (fun _ _ _ _ _ => by exact (pv 1))))), ?_⟩
    refine s_retL (el_is (el_lcR2 (lo := 2) (n := 9) (fun i => Nat.gcd n (2 + i) == 1) (fun i => V.int ((2 + i : Nat) : Int)) (ea_cons ev_c (ea_cons (ev_op ev_c ev_c rv_I0) ea_nil)) ⟨by omega, by omega, by omega, by omega, by omega⟩ (fun _ => rfl)
      (fun i H1 e hi => et_B (ev_call (dvs := []) (ea_cons (ev_var rfl) (ea_cons (ev_is (ev_var rfl) (congrArg V.int (by omega))) ea_nil)) (v_fairT ⟨h2, h5, by omega, by omega⟩)))
      (fun i H1 e hi _ => ev_is (ev_var rfl) (congrArg V.int (by omega)))) (given_nats _ _ fun i => 2 + i)) fun p H2 hp e2 h2' => k p H2 hp e2 ?_
    rw [h2', ← kinds_eq h2 h5]
    rfl
theorem l_fair_kinds {H : Hp} {n : Nat} (h2 : 2 ≤ n) (h5 : n ≤ 5) : SpL spKinds [.int n] H (vN ([2, 3, 4, 5, 6, 7, 8].filter fun (k : Nat) => Nat.gcd n k == 1)) := fun H1 e Q q E => ⟨n, rfl, h2, h5, q⟩
end
end Sw


namespace Sw
open PySem PySem.Spec PyProof.Rows L2 Evl
/-! ### the dict of exchanges -/
def tab (sw : List (Nat × Nat)) : List (Key × V) := sw.flatMap fun x => [(.inl (x.1 : Int), .int (x.2 : Int)), (.inl (x.2 : Int), .int (x.1 : Int))]
theorem tab_cons (x : Nat × Nat) (sw : List (Nat × Nat)) : tab (x :: sw) = (.inl (x.1 : Int), .int (x.2 : Int)) :: (.inl (x.2 : Int), .int (x.1 : Int)) :: tab sw := rfl
theorem tab_keys (sw : List (Nat × Nat)) : (tab sw).map (·.1) = (flat sw).map fun (g : Nat) => (Sum.inl (g : Int) : Key) := by
  induction sw with
  | nil => rfl
  | cons x sw ih =>
    rw [tab_cons]
    show _ :: _ :: (tab sw).map (·.1) = _ :: _ :: (flat sw).map fun (g : Nat) => (Sum.inl (g : Int) : Key)
    rw [ih]
theorem tab_len (sw : List (Nat × Nat)) : (tab sw).length = 2 * sw.length := by
  have h := congrArg List.length (tab_keys sw)
  rw [List.length_map, List.length_map, flat_len] at h
  exact h
theorem tab_at {sw : List (Nat × Nat)} {i : Nat} {k : Key} {v : V} (h : (tab sw)[i]? = some (k, v)) : i < (flat sw).length ∧ k = .inl (((flat sw).getD i 0 : Nat) : Int) := by
  have h1 : ((tab sw).map (·.1))[i]? = some k := by rw [List.getElem?_map, h]; rfl
  rw [tab_keys, List.getElem?_map] at h1
  cases hg : (flat sw)[i]? with
  | none =>
    rw [hg] at h1
    cases h1
  | some g =>
    rw [hg] at h1
    refine ⟨(List.getElem?_eq_some_iff.mp hg).1, ?_⟩
    rw [List.getD_eq_getElem?_getD, hg]
    exact (Option.some.inj h1).symm
theorem key_eq {a b : Nat} : ((Sum.inl (a : Int) : Key) = .inl (b : Int)) ↔ a = b := by
  constructor
  · intro h
    have h2 : (a : Int) = (b : Int) := Sum.inl.inj h
    omega
  · intro h
    rw [h]
theorem tab_val (sw : List (Nat × Nat)) (g : Nat) : valV (tab sw) (.inl (g : Int)) = (sw.find? fun (x : Nat × Nat) => x.1 == g || x.2 == g).map fun x => V.int ((if x.1 = g then x.2 else x.1 : Nat) : Int) := by
  induction sw with
  | nil => rfl
  | cons x sw ih =>
    rw [tab_cons, List.find?_cons]
    by_cases c1 : x.1 = g
    · rw [valV_pos (key_eq.mpr c1), show (x.1 == g || x.2 == g) = true by simp [c1]]
      simp [c1]
    · rw [valV_neg (fun z => c1 (key_eq.mp z))]
      by_cases c2 : x.2 = g
      · rw [valV_pos (key_eq.mpr c2), show (x.1 == g || x.2 == g) = true by simp [c2]]
        simp [c1]
      · rw [valV_neg (fun z => c2 (key_eq.mp z)), show (x.1 == g || x.2 == g) = false by simp [c1, c2]]
        exact ih
theorem tab_get (sw : List (Nat × Nat)) (g : Nat) : (valV (tab sw) (.inl (g : Int))).getD (.int (g : Int)) = .int (Mu43.partner sw g : Nat) := by
  rw [tab_val]
  unfold Mu43.partner
  cases sw.find? fun (x : Nat × Nat) => x.1 == g || x.2 == g with
  | none => rfl
  | some x => rfl
theorem tab_in (s : Mu43.State) (g : Nat) : (valV (tab s.swaps) (.inl (g : Int))).isSome = Mu43.exchanged s g := by
  rw [tab_val, Option.isSome_map]
  unfold Mu43.exchanged
  rw [Bool.eq_iff_iff, List.find?_isSome, List.any_eq_true]
theorem tab_none {sw : List (Nat × Nat)} {g : Nat} (h : g ∉ flat sw) : valV (tab sw) (.inl (g : Int)) = none := by
  rw [tab_val]
  have e : sw.find? (fun (x : Nat × Nat) => x.1 == g || x.2 == g) = none := by
    rw [List.find?_eq_none]
    intro x hx q
    exact h (mem_flat.mpr ⟨x, hx, by simpa using q⟩)
  rw [e]
  rfl
theorem tab_app (a b : List (Nat × Nat)) : tab (a ++ b) = tab a ++ tab b := by
  unfold tab
  rw [List.flatMap_append]
theorem tab_snoc {sw : List (Nat × Nat)} {x : Nat × Nat} (h : (flat (sw ++ [x])).Nodup) : putK (putK (tab sw) (.inl (x.1 : Int)) (.int (x.2 : Int))) (.inl (x.2 : Int)) (.int (x.1 : Int)) = tab (sw ++ [x]) := by
  rw [flat_app, List.nodup_append] at h
  obtain ⟨_, h2, h3⟩ := h
  have n1 : x.1 ∉ flat sw := fun m => h3 _ m x.1 (by simp [flat]) rfl
  have n2 : x.2 ∉ flat sw := fun m => h3 _ m x.2 (by simp [flat]) rfl
  have n3 : x.1 ≠ x.2 := by
    have : ([x.1, x.2] : List Nat).Nodup := h2
    simpa using this
  rw [putK_new _ (tab_none n1), putK_new, tab_app, List.append_assoc]
  · rfl
  · rw [valV_snoc _ _ _ _ (tab_none n1), if_neg (fun z => n3 (key_eq.mp z).symm)]
    exact tab_none n2
/-! ### tuples in a list -/
inductive Tups (H : Hp) : List V → List (Nat × Nat) → Prop
  | nil : Tups H [] []
  | cons {p : Addr} {vs : List V} {x : Nat × Nat} {sw : List (Nat × Nat)} (h : H p = some (.tup [.int (x.1 : Int), .int (x.2 : Int)])) (r : Tups H vs sw) : Tups H (.ref p :: vs) (x :: sw)
theorem Tups.mono {H H' : Hp} {vs : List V} {sw : List (Nat × Nat)} (h : Tups H vs sw) (e : ∀ p ys, H p = some (.tup ys) → H' p = some (.tup ys)) : Tups H' vs sw := by
  induction h with
  | nil => exact .nil
  | cons h _ ih => exact .cons (e _ _ h) ih
theorem Tups.len {H : Hp} {vs : List V} {sw : List (Nat × Nat)} (h : Tups H vs sw) : vs.length = sw.length := by
  induction h with
  | nil => rfl
  | cons h _ ih => rw [List.length_cons, List.length_cons, ih]
theorem Tups.app {H : Hp} {vs ws : List V} {sw tw : List (Nat × Nat)} (h : Tups H vs sw) (g : Tups H ws tw) : Tups H (vs ++ ws) (sw ++ tw) := by
  induction h with
  | nil => exact g
  | cons h _ ih => exact .cons h ih
theorem Tups.take {H : Hp} {vs : List V} {sw : List (Nat × Nat)} (h : Tups H vs sw) : ∀ n, Tups H (vs.take n) (sw.take n) := by
  induction h with
  | nil => intro n; simp; exact .nil
  | cons h _ ih =>
    intro n
    cases n with
    | zero => exact .nil
    | succ n => exact .cons h (ih n)
theorem Tups.drop {H : Hp} {vs : List V} {sw : List (Nat × Nat)} (h : Tups H vs sw) : ∀ n, Tups H (vs.drop n) (sw.drop n) := by
  induction h with
  | nil => intro n; simp; exact .nil
  | cons h r ih =>
    intro n
    cases n with
    | zero => exact .cons h r
    | succ n => exact ih n
theorem Tups.get {H : Hp} {vs : List V} {sw : List (Nat × Nat)} (h : Tups H vs sw) : ∀ {i : Nat} {v : V}, vs[i]? = some v → ∃ p x, v = .ref p ∧ sw[i]? = some x ∧ H p = some (.tup [.int (x.1 : Int), .int (x.2 : Int)]) := by
  induction h with
  | nil => intro i v q; simp at q
  | cons h r ih =>
    intro i v q
    cases i with
    | zero =>
      have e : V.ref _ = v := Option.some.inj q
      exact ⟨_, _, e.symm, rfl, h⟩
    | succ i => exact ih q
/-! ### a roster as it lies in the heap -/
def methsR : List Str := ["take", "is_full", "is_exchanged", "team_at", "teams_on", "hours_between", "stands_twice_at", "somebody_stands_twice"]
def roF (a x d : Addr) : List (Str × V) := [("ship", .ref a), ("exchanges", .ref x), ("partners", .ref d)]
section
variable (a x d : Addr)
theorem roShip : (roF a x d).lookup ("ship" : Str) = some (.ref a) := lkH
theorem roEx : (roF a x d).lookup ("exchanges" : Str) = some (.ref x) := (lkP (by decide +kernel)).trans lkH
theorem roPart : (roF a x d).lookup ("partners" : Str) = some (.ref d) := (lkP (by decide +kernel)).trans ((lkP (by decide +kernel)).trans lkH)
theorem roNo {m : Str} (h : (methsR.any fun x => x == m) = true) : (roF a x d).lookup m = none := by
  have key : ∀ y ∈ methsR, (roF a x d).lookup y = none := by
    intro y hy
    have h1 : (methsR.all fun x => !(x == ("ship" : Str)) && !(x == ("exchanges" : Str)) && !(x == ("partners" : Str))) = true := by decide +kernel
    have h2 := List.all_eq_true.mp h1 y hy
    simp only [Bool.and_eq_true, Bool.not_eq_true'] at h2
    exact (lkP h2.1.1).trans ((lkP h2.1.2).trans ((lkP h2.2).trans rfl))
  obtain ⟨y, hy, e⟩ := List.any_eq_true.mp h
  rw [← eq_of_beq e]
  exact key y hy
end
/-- the dict may be locked (Rd) -/
structure RosAt (CR C : Addr) (H : Hp) (r : Addr) (s : Mu43.State) : Prop where
  ex : ∃ dx a x d vs, H r = some (.ins CR dx (roF a x d)) ∧ ShipAt C H a s.turn ∧ H x = some (.lst vs) ∧ Tups H vs s.swaps ∧ Rd H d (.dK (tab s.swaps))
theorem RosAt.mono {CR C : Addr} {H H' : Hp} {r : Addr} {s : Mu43.State} (h : RosAt CR C H r s) (e : Ex H H') : RosAt CR C H' r s := by
  obtain ⟨dx, a, x, d, vs, h1, h2, h3, h4, h5⟩ := h.ex
  exact ⟨dx, a, x, d, vs, e _ _ h1, h2.mono e, e _ _ h3, h4.mono fun p ys hp => e _ _ hp, ex_rd e h5⟩
/-- the dict is free -/
structure RosFree (CR C : Addr) (H : Hp) (r : Addr) (s : Mu43.State) : Prop where
  ex : ∃ dx a x d vs, H r = some (.ins CR dx (roF a x d)) ∧ ShipAt C H a s.turn ∧ H x = some (.lst vs) ∧ Tups H vs s.swaps ∧ H d = some (.dK (tab s.swaps))
theorem RosFree.at_ {CR C : Addr} {H : Hp} {r : Addr} {s : Mu43.State} (h : RosFree CR C H r s) : RosAt CR C H r s := by
  obtain ⟨dx, a, x, d, vs, h1, h2, h3, h4, h5⟩ := h.ex
  exact ⟨dx, a, x, d, vs, h1, h2, h3, h4, .inl h5⟩
theorem RosFree.mono {CR C : Addr} {H H' : Hp} {r : Addr} {s : Mu43.State} (h : RosFree CR C H r s) (e : Ex H H') : RosFree CR C H' r s := by
  obtain ⟨dx, a, x, d, vs, h1, h2, h3, h4, h5⟩ := h.ex
  exact ⟨dx, a, x, d, vs, e _ _ h1, h2.mono e, e _ _ h3, h4.mono fun p ys hp => e _ _ hp, e _ _ h5⟩
/-! ### the promises -/
def spPart (K : PySem.W.Frag) : Sp := fun vs H Q _ => ∃ (b : Addr) (ws : List V) (sw : List (Nat × Nat)), vs = [.ref b] ∧ SqL K H b ws ∧ Tups H ws sw ∧ (flat sw).Nodup ∧ sw.length ≤ 7 ∧ ∀ H' d, H d = none → Ex H H' → H' d = some (.dK (tab sw)) → Q (.ref d) H'
def spRInit (CR : Addr) : Sp := fun vs H Q _ => ∃ (p dx a b : Addr) (ws : List V) (sw : List (Nat × Nat)), vs = [.ref p, .ref a, .ref b] ∧ H p = some (.ins CR dx []) ∧ H b = some (.lst ws) ∧ Tups H ws sw ∧ (flat sw).Nodup ∧ sw.length ≤ 7 ∧
  ∀ H' x d, H x = none → H d = none → H' p = some (.ins CR dx (roF a x d)) → H' x = some (.lst ws) → H' d = some (.dK (tab sw)) → (∀ c o, H c = some o → c ≠ p → H' c = some o) → Q .non H'
def spTake (CR : Addr) : Sp := fun vs H Q _ => ∃ (p dx a x0 d0 b : Addr) (ws : List V) (sw : List (Nat × Nat)), vs = [.ref p, .ref b] ∧ H p = some (.ins CR dx (roF a x0 d0)) ∧ H b = some (.lst ws) ∧ Tups H ws sw ∧ (flat sw).Nodup ∧ sw.length ≤ 7 ∧
  ∀ H' x d, H x = none → H d = none → H' p = some (.ins CR dx (roF a x d)) → H' x = some (.lst ws) → H' d = some (.dK (tab sw)) → (∀ c o, H c = some o → c ≠ p → H' c = some o) → Q .non H'
section
variable (CR C : Addr)
def spFull : Sp := fun vs H Q _ => ∃ (r : Addr) (s : Mu43.State), vs = [.ref r] ∧ RosAt CR C H r s ∧ RetV (.bl (decide (s.swaps.length = 6))) H Q
def spExch : Sp := fun vs H Q _ => ∃ (r : Addr) (s : Mu43.State) (g : Nat), vs = [.ref r, .int g] ∧ RosAt CR C H r s ∧ RetV (.bl (Mu43.exchanged s g)) H Q
def spTeamAt : Sp := fun vs H Q _ => ∃ (r : Addr) (s : Mu43.State) (g : Nat), vs = [.ref r, .int g] ∧ RosAt CR C H r s ∧ OkT s.turn ∧ RetV (.int (Mu43.who s g : Nat)) H Q
def spTeamsOn : Sp := fun vs H Q _ => ∃ (r : Addr) (s : Mu43.State) (d : Nat), vs = [.ref r, .int d] ∧ RosAt CR C H r s ∧ OkT s.turn ∧ RetL (vN ((List.range (Mu43.watches s.turn)).map fun (w : Nat) => Mu43.who s (Mu43.number s.turn d w))) H Q
def spHoursB : Sp := fun vs H Q _ => ∃ (r : Addr) (s : Mu43.State) (q d e : Nat), vs = [.ref r, .int q, .int d, .int e] ∧ RosAt CR C H r s ∧ OkT s.turn ∧ d ≤ e ∧ e ≤ 300 ∧ RetV (.int (Mu43.stood s q ((e - d) * Mu43.watches s.turn) (Mu43.number s.turn d 0) : Nat)) H Q
def spTwiceAt : Sp := fun vs H Q _ => ∃ (r : Addr) (s : Mu43.State) (g : Nat), vs = [.ref r, .int g] ∧ RosAt CR C H r s ∧ OkT s.turn ∧ RetV (.bl (Mu43.tired s g)) H Q
def spSomebody : Sp := fun vs H Q _ => ∃ (r : Addr) (s : Mu43.State), vs = [.ref r] ∧ RosFree CR C H r s ∧ OkT s.turn ∧ s.swaps.length ≤ 7 ∧ RetV (.bl ((flat s.swaps).any fun g => Mu43.tired s g)) H Q
end
theorem puH {f : Str} {v x : V} {r : List (Str × V)} : putF f v ((f, x) :: r) = (f, v) :: r := if_pos rfl
theorem puP {f g : Str} {v x : V} {r : List (Str × V)} (h : ¬ g = f) : putF f v ((g, x) :: r) = (g, x) :: putF f v r := if_neg h
theorem puEx (a x d z : Addr) : putF "exchanges" (.ref z) (roF a x d) = roF a z d := (puP (by decide +kernel)).trans (congrArg _ puH)
theorem puPart (a x d z : Addr) : putF "partners" (.ref z) (roF a x d) = roF a x z := (puP (by decide +kernel)).trans (congrArg _ ((puP (by decide +kernel)).trans (congrArg _ puH)))
section
variable {P : Program} {w : World} {K : PySem.W.Frag} {mg : Str → Option Value} {base : Heap} {C CR : Addr}
theorem p_partners_of (Z : Top K mg C CR) : FnP P w K mg base 1 "partners_of" ["exchanges"] (spPart K) := by
  obtain ⟨f, fd, F, b, m, kp⟩ := Z.f_partners_of
  have T := Z.T
  refine ⟨f, fd, F.ok sc_partners_of (fun vs H Q E h => ?_) (fun cdv A outer s H vs Q E hr h => ?_), b, m, kp⟩
  · obtain ⟨b, ws, sw, rfl, _⟩ := h
    rfl
  · obtain ⟨b, ws, sw, rfl, hs, ht, hn, hf, k⟩ := h
    have nd := sc_partners_of.nd
    have hu := Nat.lt_of_le_of_lt (Nat.add_le_add_left (show 1 ≤ 64 by decide) _) hr.units
    refine ⟨_, (pss_cons (ps_set (i := 1) nd rfl (Or.inl rfl) pe_dnewK) (pss_cons (ps_for PassesOwn.never rfl (pi_list (pv 0)) (pg_name (i := 2) nd rfl (Or.inl rfl)) (pss_cons (ps_dput hu (pv 1) (pe_ix ix_tup (pv 2) pe_int (fun _ _ => rfl)) (pe_ix ix_tup (pv 2) pe_int (fun _ _ => rfl)) (by rfl)) (pss_one (ps_dput hu (pv 1) (pe_ix ix_tup (pv 2) pe_int (fun _ _ => rfl)) (pe_ix ix_tup (pv 2) pe_int (fun _ _ => rfl)) (by rfl))))) (pss_one (ps_ret (pv 1))))), ?_⟩
    refine q_asgD fun p hp => ?_
    have hlen := ht.len
    refine q_forLn (ev_var rfl) (ex_l (Ex.new hp) hs) (fun i σ' H' => ∃ v : Option V, σ' = [some (.ref b), some (.ref p), v] ∧ Ex H H' ∧ H' p = some (.dK (tab (sw.take i)))) (fun H1 e1 => ⟨none, rfl, (Ex.new hp).trans e1, e1 _ _ upd_same⟩) (fun i σ' H' _ h => by
      obtain ⟨v, _, e, _⟩ := h
      exact ex_l e hs) ?_ ?_
    · rintro i x σ' H' hi ⟨v, rfl, e, hd⟩
      obtain ⟨q, y, rfl, hy, hq⟩ := ht.get hi
      have hil : i < sw.length := (List.getElem?_eq_some_iff.mp hy).1
      have htl : (tab (sw.take i)).length ≤ 14 := by
        rw [tab_len, List.length_take]
        omega
      have hq1 := e _ _ hq
      refine q_dput (k := .inl (y.1 : Int)) (v := .int (y.2 : Int)) (ev_op (ev_var rfl) ev_c (rv_ixT (st_of hq1) (atI_int (j := 1) rfl rfl))) (ev_var rfl) (ev_op (ev_var rfl) ev_c (rv_ixT (st_of hq1) (atI_int (j := 0) rfl rfl))) hd (by omega) fun H2 e2 => ?_
      have E2 : Ex H (upd H2 p (.dK (putK (tab (sw.take i)) (.inl (y.1 : Int)) (.int (y.2 : Int))))) := Ex.mut (e.trans e2) hp
      have hq2 := E2 _ _ hq
      have hl2 := length_putK (tab (sw.take i)) (.inl (y.1 : Int)) (.int (y.2 : Int))
      refine s_dput (k := .inl (y.2 : Int)) (v := .int (y.1 : Int)) (ev_op (ev_var rfl) ev_c (rv_ixT (st_of hq2) (atI_int (j := 0) rfl rfl))) (ev_var rfl) (ev_op (ev_var rfl) ev_c (rv_ixT (st_of hq2) (atI_int (j := 1) rfl rfl))) upd_same (by omega) fun H3 e3 => ?_
      refine ⟨_, rfl, Ex.mut (E2.trans e3) hp, ?_⟩
      have et : sw.take (i + 1) = sw.take i ++ [y] := by
        rw [List.take_succ_eq_append_getElem hil]
        rw [List.getElem?_eq_getElem hil] at hy
        rw [Option.some.inj hy]
      have hn2 : (flat (sw.take i ++ [y])).Nodup := by
        rw [← et]
        have e5 : flat sw = flat (sw.take (i + 1)) ++ flat (sw.drop (i + 1)) := by rw [← flat_app, List.take_append_drop]
        rw [e5, List.nodup_append] at hn
        exact hn.1
      rw [upd_same, tab_snoc hn2, ← et]
    · rintro σ' H' ⟨v, rfl, e, hd⟩
      rw [hlen, List.take_length] at hd
      exact s_ret (ev_var rfl) fun H3 e3 => k H3 p hp (e.trans e3) (e3 _ _ hd)
theorem p_Roster (Z : Top K mg C CR) : MkP P w K mg base CR 2 ["self", "ship", "exchanges"] (spRInit CR) := by
  obtain ⟨f, fd, F, b, m⟩ := Z.mk_Roster
  obtain ⟨f_partners_of, fd_partners_of, G_partners_of, b_partners_of, g_partners_of, kp_partners_of⟩ := p_partners_of (P := P) (w := w) (base := base) Z
  have T := Z.T
  refine ⟨f, fd, F.ok sc_Roster_init (fun vs H Q E h => ?_) (fun cdv A outer s H vs Q E hr h => ?_), b, m⟩
  · obtain ⟨p, dx, a, b, ws, sw, rfl, _⟩ := h
    rfl
  · obtain ⟨p, dx, a, b, ws, sw, rfl, hp, hb, ht, hn, hf, k⟩ := h
    have nd := sc_Roster_init.nd
    have hr_partners_of : Room 1 _ := hr.mono (by decide)
    refine ⟨_, (pss_cons (ps_fld (pv 0) (pv 1) rfl) (pss_cons (ps_fld (pv 0) (pe_callTy call_list_of (by rfl) T.z_list (by decide +kernel) (pa_cons (pv 2) pa_nil)) rfl) (pss_one (ps_fld (pv 0) (pe_call G_partners_of hr_partners_of (by rfl) g_partners_of kp_partners_of b_partners_of .nil pass0 (pa_cons (pv 2) pa_nil)) rfl)))), ?_⟩
    have nbp : b ≠ p := fun z => by
      rw [z, hp] at hb
      cases hb
    refine ⟨_, rfl, _, rfl, p, CR, dx, [], rfl, hp, T.clRoster, T.nRoster_ship, (by show 0 < 1000; decide), ?_⟩
    refine ⟨_, rfl, b, ws, rfl, .inl (sq_of (by rw [upd_ne nbp]; exact hb)), fun x hx => ?_⟩
    have npx : p ≠ x := fun q => by
      rw [← q, upd_same] at hx
      cases hx
    rw [upd_ne (fun q => npx q.symm)] at hx
    have nbx : b ≠ x := ne_of_none hb hx
    refine ⟨_, rfl, p, CR, dx, _, rfl, Eq.trans (upd_ne npx) upd_same, T.clRoster, T.nRoster_exchanges, (by show 1 < 1000; decide), ?_⟩
    refine ⟨_, rfl, b, ws, sw, rfl, sq_of (by rw [upd_ne nbp, upd_ne nbx, upd_ne nbp]; exact hb), ht.mono (fun q ys hq => ?_), hn, hf, fun H' d hd e hdd => ?_⟩
    · have nqp : q ≠ p := fun z => by
        rw [z, hp] at hq
        cases hq
      rw [upd_ne nqp, upd_ne (ne_of_none hq hx), upd_ne nqp]
      exact hq
    · have ndp : d ≠ p := fun z => by
        rw [z, upd_same] at hd
        cases hd
      have ndx : d ≠ x := fun z => by
        rw [z, upd_ne (fun q => npx q.symm), upd_same] at hd
        cases hd
      rw [upd_ne ndp, upd_ne ndx, upd_ne ndp] at hd
      refine ⟨_, rfl, p, CR, dx, _, rfl, e _ _ upd_same, T.clRoster, T.nRoster_partners, (by show 2 < 1000; decide), ?_⟩
      refine k _ x d hx hd ?_ ?_ ?_ fun c o hc nc => ?_
      · rw [upd_same]
        exact congrArg (fun q => some (HO.ins CR dx q)) ((congrArg (putF "partners" (.ref d)) ((puP (by decide +kernel)).trans rfl)).trans ((puP (by decide +kernel)).trans ((congrArg _ (puP (by decide +kernel))).trans rfl)))
      · rw [upd_ne (fun q => npx q.symm)]
        refine e _ _ ?_
        rw [upd_ne (fun q => npx q.symm), upd_same]
      · rw [upd_ne ndp]
        exact hdd
      · rw [upd_ne nc]
        refine e _ _ ?_
        rw [upd_ne nc, upd_ne (ne_of_none hc hx), upd_ne nc]
        exact hc
theorem p_take (Z : Top K mg C CR) : MeP P w K mg base CR 2 "take" ["self", "exchanges"] (spTake CR) := by
  obtain ⟨f, fd, F, b, m⟩ := Z.m_Roster_take
  obtain ⟨f_partners_of, fd_partners_of, G_partners_of, b_partners_of, g_partners_of, kp_partners_of⟩ := p_partners_of (P := P) (w := w) (base := base) Z
  have T := Z.T
  refine ⟨f, fd, F.ok sc_Roster_take (fun vs H Q E h => ?_) (fun cdv A outer s H vs Q E hr h => ?_), b, m⟩
  · obtain ⟨p, dx, a, x0, d0, b, ws, sw, rfl, _⟩ := h
    rfl
  · obtain ⟨p, dx, a, x0, d0, b, ws, sw, rfl, hp, hb, ht, hn, hf, k⟩ := h
    have nd := sc_Roster_take.nd
    have hr_partners_of : Room 1 _ := hr.mono (by decide)
    refine ⟨_, (pss_cons (ps_fld (pv 0) (pe_callTy call_list_of (by rfl) T.z_list (by decide +kernel) (pa_cons (pv 1) pa_nil)) rfl) (pss_one (ps_fld (pv 0) (pe_call G_partners_of hr_partners_of (by rfl) g_partners_of kp_partners_of b_partners_of .nil pass0 (pa_cons (pv 1) pa_nil)) rfl))), ?_⟩
    have nbp : b ≠ p := fun z => by
      rw [z, hp] at hb
      cases hb
    refine ⟨_, rfl, b, ws, rfl, .inl (sq_of hb), fun x hx => ?_⟩
    have npx : p ≠ x := ne_of_none hp hx
    have nbx : b ≠ x := ne_of_none hb hx
    refine ⟨_, rfl, p, CR, dx, _, rfl, Eq.trans (upd_ne npx) hp, T.clRoster, T.nRoster_exchanges, (by show 3 < 1000; decide), ?_⟩
    rw [puEx]
    refine ⟨_, rfl, b, ws, sw, rfl, sq_of (by rw [upd_ne nbp, upd_ne nbx]; exact hb), ht.mono (fun q ys hq => ?_), hn, hf, fun H' d hd e hdd => ?_⟩
    · have nqp : q ≠ p := fun z => by
        rw [z, hp] at hq
        cases hq
      rw [upd_ne nqp, upd_ne (ne_of_none hq hx)]
      exact hq
    · have ndp : d ≠ p := fun z => by
        rw [z, upd_same] at hd
        cases hd
      have ndx : d ≠ x := fun z => by
        rw [z, upd_ne (fun q => npx q.symm), upd_same] at hd
        cases hd
      rw [upd_ne ndp, upd_ne ndx] at hd
      refine ⟨_, rfl, p, CR, dx, _, rfl, e _ _ upd_same, T.clRoster, T.nRoster_partners, (by show 3 < 1000; decide), ?_⟩
      rw [puPart]
      refine k _ x d hx hd upd_same ?_ ?_ fun c o hc nc => ?_
      · rw [upd_ne (fun q => npx q.symm)]
        refine e _ _ ?_
        rw [upd_ne (fun q => npx q.symm), upd_same]
      · rw [upd_ne ndp]
        exact hdd
      · rw [upd_ne nc]
        refine e _ _ ?_
        rw [upd_ne nc, upd_ne (ne_of_none hc hx)]
        exact hc
theorem p_is_full (Z : Top K mg C CR) : MeP P w K mg base CR 1 "is_full" ["self"] (spFull CR C) := by
  obtain ⟨f, fd, F, b, m⟩ := Z.m_Roster_is_full
  have T := Z.T
  obtain ⟨_, c_MOST_EXCHANGES⟩ := T.c_MOST_EXCHANGES
  refine ⟨f, fd, F.ok sc_Roster_is_full (fun vs H Q E h => ?_) (fun cdv A outer s H vs Q E hr h => ?_), b, m⟩
  · obtain ⟨r, s, rfl, _⟩ := h
    rfl
  · obtain ⟨r, s', rfl, S, k⟩ := h
    have nd := sc_Roster_is_full.nd
    refine ⟨_, (pss_one (ps_ret (pe_cmpR op_eq (pe_callB call_len_seq (by rfl) T.z_len (by decide +kernel) (pa_cons (pe_fld (pv 0) rfl) pa_nil)) (pe_gint rfl c_MOST_EXCHANGES) (nomark _)))), ?_⟩
    obtain ⟨dx, a, x, d, vs, h1, h2, h3, h4, h5⟩ := S.ex
    refine s_ret (ev_is (ev_eqI (ev_len (ev_fld (ev_var rfl) h1 T.clRoster T.nRoster_exchanges (roEx a x d)) (sq_of h3)) ev_c) ?_) fun H1 e1 => k H1 e1
    rw [h4.len]
    exact congrArg V.bl (decide_eq_decide.mpr ⟨fun h => by omega, fun h => by omega⟩)
theorem e_is_full {ta : TE} {σ : L2.St} {H : Hp} {r : Addr} {s : Mu43.State} {E : XK} (h : Ev ta σ H (.ref r)) (S : RosAt CR C H r s) : Ev (tMeth CR "is_full" (spFull CR C) [] E ta tNil) σ H (.bl (decide (s.swaps.length = 6))) := by
  obtain ⟨dx, a, x, d, vs, h1, h2, h3, h4, h5⟩ := S.ex
  exact ev_meth h h1 (roNo a x d (by decide +kernel)) ea_nil fun H1 e Q k E => ⟨r, s, rfl, S.mono e, k⟩
theorem p_is_exchanged (Z : Top K mg C CR) : MeP P w K mg base CR 1 "is_exchanged" ["self", "place"] (spExch CR C) := by
  obtain ⟨f, fd, F, b, m⟩ := Z.m_Roster_is_exchanged
  have T := Z.T
  refine ⟨f, fd, F.ok sc_Roster_is_exchanged (fun vs H Q E h => ?_) (fun cdv A outer s H vs Q E hr h => ?_), b, m⟩
  · obtain ⟨r, s, g, rfl, _⟩ := h
    rfl
  · obtain ⟨r, s', g, rfl, S, k⟩ := h
    have nd := sc_Roster_is_exchanged.nd
    have hu := Nat.lt_of_le_of_lt (Nat.add_le_add_left (show 1 ≤ 64 by decide) _) hr.units
    refine ⟨_, (pss_one (ps_ret (pe_cmp (pc_din hu (pv 1) (pe_fld (pv 0) rfl))))), ?_⟩
    obtain ⟨dx, a, x, d, vs, h1, h2, h3, h4, h5⟩ := S.ex
    refine s_ret (ev_is (ev_din (k := .inl (g : Int)) (ev_var rfl) (ev_fld (ev_var rfl) h1 T.clRoster T.nRoster_partners (roPart a x d)) h5) ?_) fun H1 e1 => k H1 e1
    rw [tab_in]
theorem e_is_exchanged {ta tb : TE} {σ : L2.St} {H : Hp} {r : Addr} {s : Mu43.State} {g : Nat} {E : XK} (h : Ev ta σ H (.ref r)) (S : RosAt CR C H r s) (hb : Ev tb σ H (.int g)) : Ev (tMeth CR "is_exchanged" (spExch CR C) [] E ta (tCons tb tNil)) σ H (.bl (Mu43.exchanged s g)) := by
  obtain ⟨dx, a, x, d, vs, h1, h2, h3, h4, h5⟩ := S.ex
  exact ev_meth h h1 (roNo a x d (by decide +kernel)) (ea_cons hb ea_nil) fun H1 e Q k E => ⟨r, s, g, rfl, S.mono e, k⟩
theorem p_team_at (Z : Top K mg C CR) : MeP P w K mg base CR 2 "team_at" ["self", "place"] (spTeamAt CR C) := by
  obtain ⟨f, fd, F, b, m⟩ := Z.m_Roster_team_at
  obtain ⟨f_turn_at, fd_turn_at, G_turn_at, b_turn_at, m_turn_at⟩ := p_turn_at (P := P) (w := w) (base := base) Z
  have T := Z.T
  refine ⟨f, fd, F.ok sc_Roster_team_at (fun vs H Q E h => ?_) (fun cdv A outer s H vs Q E hr h => ?_), b, m⟩
  · obtain ⟨r, s, g, rfl, _⟩ := h
    rfl
  · obtain ⟨r, s', g, rfl, S, O, k⟩ := h
    have nd := sc_Roster_team_at.nd
    have hu := Nat.lt_of_le_of_lt (Nat.add_le_add_left (show 1 ≤ 64 by decide) _) hr.units
    have hr_turn_at : Room 1 _ := hr.mono (by decide)
    refine ⟨_, (pss_one (ps_ret (pe_meth (pe_fld (pv 0) rfl) T.clShip m_turn_at G_turn_at hr_turn_at b_turn_at .nil pass0 (pa_cons (pe_dget2 hu (pe_fld (pv 0) rfl) (pv 1) (pv 1) ⟨rfl, rfl, rfl, rfl⟩) pa_nil)))), ?_⟩
    obtain ⟨dx, a, x, d, vs, h1, h2, h3, h4, h5⟩ := S.ex
    exact s_ret (e_turn_at (g := Mu43.partner s'.swaps g) (ev_fld (ev_var rfl) h1 T.clRoster T.nRoster_ship (roShip a x d)) h2 O (ev_is (ev_dget2 (k := .inl (g : Int)) (ev_fld (ev_var rfl) h1 T.clRoster T.nRoster_partners (roPart a x d)) h5 (ev_var rfl) (ev_var rfl)) (tab_get _ _))) fun H1 e1 => k H1 e1
theorem e_team_at {ta tb : TE} {σ : L2.St} {H : Hp} {r : Addr} {s : Mu43.State} {g : Nat} {E : XK} (h : Ev ta σ H (.ref r)) (S : RosAt CR C H r s) (O : OkT s.turn) (hb : Ev tb σ H (.int g)) : Ev (tMeth CR "team_at" (spTeamAt CR C) [] E ta (tCons tb tNil)) σ H (.int (Mu43.who s g : Nat)) := by
  obtain ⟨dx, a, x, d, vs, h1, h2, h3, h4, h5⟩ := S.ex
  exact ev_meth h h1 (roNo a x d (by decide +kernel)) (ea_cons hb ea_nil) fun H1 e Q k E => ⟨r, s, g, rfl, S.mono e, O, k⟩
theorem p_teams_on (Z : Top K mg C CR) : MeP P w K mg base CR 3 "teams_on" ["self", "day"] (spTeamsOn CR C) := by
  obtain ⟨f, fd, F, b, m⟩ := Z.m_Roster_teams_on
  obtain ⟨f_team_at, fd_team_at, G_team_at, b_team_at, m_team_at⟩ := p_team_at (P := P) (w := w) (base := base) Z
  obtain ⟨f_place_of, fd_place_of, G_place_of, b_place_of, m_place_of⟩ := p_place_of (P := P) (w := w) (base := base) Z
  obtain ⟨f_watches, fd_watches, G_watches, b_watches, m_watches⟩ := p_watches (P := P) (w := w) (base := base) Z
  have T := Z.T
  refine ⟨f, fd, F.ok sc_Roster_teams_on (fun vs H Q E h => ?_) (fun cdv A outer s H vs Q E hr h => ?_), b, m⟩
  · obtain ⟨r, s, d, rfl, _⟩ := h
    rfl
  · obtain ⟨r, s', dd, rfl, S, O, k⟩ := h
    have nd := sc_Roster_teams_on.nd
    have hr_team_at : Room 2 _ := hr.mono (by decide)
    have hr_place_of : Room 2 _ := hr.mono (by decide)
    have hr_watches : Room 1 _ := hr.mono (by decide)
    refine ⟨_, (pss_one (ps_ret (pe_lc (own := [("watch", 2)]) (g := gName 2) (te := (tMeth _ _ _ _ _ _ (tCons (tMeth _ _ _ _ _ (tFld K _ _) _) tNil))) (by rfl) nd (pi_range1 (by rfl) T.z_range (pa_cons (pe_meth0 (pe_fld (pv 0) rfl) T.clShip m_watches G_watches hr_watches b_watches .nil pass0) pa_nil)) (blkOk_by (own := [("watch", 2)]) (N := ["self", "day", "watch"]) (sc := defScope s_Roster_teams_on) (by decide +kernel)) (fun _ _ _ _ _ => pg_name (i := 2) nd rfl (Or.inl rfl)) (fun _ _ _ _ _ => by exact pts_nil) (fun _ _ _ _ _ => by exact (pe_meth (pv 0) T.clRoster m_team_at G_team_at hr_team_at b_team_at .nil pass0 (pa_cons (pe_meth (pe_fld (pv 0) rfl) T.clShip m_place_of G_place_of hr_place_of b_place_of .nil pass0 (pa_cons (pv 1) (pa_cons (pv 2) pa_nil))) pa_nil)))))), ?_⟩
    obtain ⟨dx, a, x, d, vs, h1, h2, h3, h4, h5⟩ := S.ex
    have w8 := O.w8
    refine s_retL (el_is (el_lcR1 (fun _ => true) (fun i => V.int ((Mu43.who s' (Mu43.number s'.turn dd i) : Nat) : Int)) (ea_cons (e_watches (ev_fld (ev_var rfl) h1 T.clRoster T.nRoster_ship (roShip a x d)) h2) ea_nil) ⟨by omega, by omega⟩ (fun _ => rfl) (fun i H1 e hi => et_yes)
      (fun i H1 e hi _ => e_team_at (ev_var rfl) (S.mono e) O (e_place_of (ev_fld (ev_var rfl) (e _ _ h1) T.clRoster T.nRoster_ship (roShip a x d)) (h2.mono e) O (ev_var rfl) (ev_var rfl)))) (given_all _ _)) fun p H2 hp e2 h2 => k p H2 hp e2 ?_
    rw [h2, Int.toNat_natCast]
    rfl
theorem l_teams_on {ta tb : TE} {σ : L2.St} {H : Hp} {r : Addr} {s : Mu43.State} {d : Nat} {E : XK} (h : Ev ta σ H (.ref r)) (S : RosAt CR C H r s) (O : OkT s.turn) (hb : Ev tb σ H (.int d)) : EvL (tMeth CR "teams_on" (spTeamsOn CR C) [] E ta (tCons tb tNil)) σ H (vN ((List.range (Mu43.watches s.turn)).map fun (w : Nat) => Mu43.who s (Mu43.number s.turn d w))) := by
  obtain ⟨dx, a, x, d', vs, h1, h2, h3, h4, h5⟩ := S.ex
  exact el_meth h h1 (roNo a x d' (by decide +kernel)) (ea_cons hb ea_nil) fun H1 e Q k E => ⟨r, s, d, rfl, S.mono e, O, k⟩
theorem p_hours_between (Z : Top K mg C CR) : MeP P w K mg base CR 3 "hours_between" ["self", "team", "begin_day", "end_day"] (spHoursB CR C) := by
  obtain ⟨f, fd, F, b, m⟩ := Z.m_Roster_hours_between
  obtain ⟨f_place_of, fd_place_of, G_place_of, b_place_of, m_place_of⟩ := p_place_of (P := P) (w := w) (base := base) Z
  obtain ⟨f_length_at, fd_length_at, G_length_at, b_length_at, m_length_at⟩ := p_length_at (P := P) (w := w) (base := base) Z
  obtain ⟨f_team_at, fd_team_at, G_team_at, b_team_at, m_team_at⟩ := p_team_at (P := P) (w := w) (base := base) Z
  have T := Z.T
  refine ⟨f, fd, F.ok sc_Roster_hours_between (fun vs H Q E h => ?_) (fun cdv A outer s H vs Q E hr h => ?_), b, m⟩
  · obtain ⟨r, s, q, d, e, rfl, _⟩ := h
    rfl
  · obtain ⟨r, s', q, dd, ee, rfl, S, O, hde, he3, k⟩ := h
    have nd := sc_Roster_hours_between.nd
    have hr_place_of : Room 2 _ := hr.mono (by decide)
    have hr_length_at : Room 2 _ := hr.mono (by decide)
    have hr_team_at : Room 2 _ := hr.mono (by decide)
    refine ⟨_, (pss_cons (ps_set (i := 4) nd rfl (Or.inl rfl) (pe_meth (pe_fld (pv 0) rfl) T.clShip m_place_of G_place_of hr_place_of b_place_of .nil pass0 (pa_cons (pv 2) (pa_cons pe_int pa_nil)))) (pss_cons (ps_set (i := 5) nd rfl (Or.inl rfl) (pe_meth (pe_fld (pv 0) rfl) T.clShip m_place_of G_place_of hr_place_of b_place_of .nil pass0 (pa_cons (pv 3) (pa_cons pe_int pa_nil)))) (pss_one (ps_ret (pe_callB (cr_sum rfl) (by rfl) T.z_sum (by decide +kernel) (pa_cons (pe_lc (own := [("place", 6)]) (g := gName 6) (te := (tMeth _ _ _ _ _ (tFld K _ _) _)) (by rfl) nd (pi_range2 (by rfl) T.z_range (pa_cons (pv 4) (pa_cons (pv 5) pa_nil))) (blkOk_by (own := [("place", 6)]) (N := ["self", "team", "begin_day", "end_day", "begin", "end", "place"]) (sc := defScope s_Roster_hours_between) (by decide +kernel)) (fun _ _ _ _ _ => pg_name (i := 6) nd rfl (Or.inl rfl)) (fun _ _ _ _ _ => by exact (pts_one (pt_cmpR op_eq (pe_meth (pv 0) T.clRoster m_team_at G_team_at hr_team_at b_team_at .nil pass0 (pa_cons (pv 6) pa_nil)) (pv 1) (nomark _)))) (fun _ _ _ _ _ => by exact (pe_meth (pe_fld (pv 0) rfl) T.clShip m_length_at G_length_at hr_length_at b_length_at .nil pass0 (pa_cons (pv 6) pa_nil)))) pa_nil)))))), ?_⟩
    obtain ⟨dx, a, x, d, vs, h1, h2, h3, h4, h5⟩ := S.ex
    have w8 := O.w8
    have hnum : ∀ z, Mu43.number s'.turn z 0 = z * s'.turn.long.length := fun z => by unfold Mu43.number Mu43.watches; omega
    have hb1 : dd * s'.turn.long.length ≤ ee * s'.turn.long.length := Nat.mul_le_mul_right _ hde
    have hb2 : ee * s'.turn.long.length ≤ 300 * 8 := Nat.mul_le_mul he3 w8
    refine q_asg (e_place_of (d := dd) (w := 0) (ev_fld (ev_var rfl) h1 T.clRoster T.nRoster_ship (roShip a x d)) h2 O (ev_var rfl) ev_c) fun H1 e1 => ?_
    refine q_asg (e_place_of (d := ee) (w := 0) (ev_fld (ev_var rfl) (e1 _ _ h1) T.clRoster T.nRoster_ship (roShip a x d)) (h2.mono e1) O (ev_var rfl) ev_c) fun H2 e2 => ?_
    have E2 := e1.trans e2
    have hd1 := hnum dd
    have hd2 := hnum ee
    refine s_ret (ev_sumNat (el_is (el_lcR2 (fun i => decide (Mu43.who s' (Mu43.number s'.turn dd 0 + i) = q)) (fun i => V.int ((Mu43.hours s'.turn (Mu43.number s'.turn dd 0 + i) : Nat) : Int)) (ea_cons (ev_var rfl) (ea_cons (ev_var rfl) ea_nil)) ⟨by omega, by omega, by omega, by omega, by omega⟩ (fun _ => rfl)
      (fun i H3 e3 hi => et_is (et_eqI (e_team_at (ev_var rfl) (S.mono (E2.trans e3)) O (ev_is (ev_var rfl) (congrArg V.int (by omega)))) (ev_var rfl)) (dec_nat _ _))
      (fun i H3 e3 hi _ => e_length_at (ev_fld (ev_var rfl) ((E2.trans e3) _ _ h1) T.clRoster T.nRoster_ship (roShip a x d)) (h2.mono (E2.trans e3)) O (ev_is (ev_var rfl) (congrArg V.int (by omega))))) (given_nats _ _ _))) fun H3 e3 => ?_
    have e4 : (((Mu43.number s'.turn ee 0 : Nat) : Int) - ((Mu43.number s'.turn dd 0 : Nat) : Int)).toNat = (ee - dd) * Mu43.watches s'.turn := by
      show _ = (ee - dd) * s'.turn.long.length
      rw [Nat.sub_mul]
      omega
    have e5 : (((List.range ((ee - dd) * Mu43.watches s'.turn)).filter fun i => decide (Mu43.who s' (Mu43.number s'.turn dd 0 + i) = q)).map fun i => Mu43.hours s'.turn (Mu43.number s'.turn dd 0 + i)).sum = Mu43.stood s' q ((ee - dd) * Mu43.watches s'.turn) (Mu43.number s'.turn dd 0) := by
      rw [sum_filter]
      unfold Mu43.stood
      rw [total_sum]
      refine congrArg List.sum (map_range_congr fun i _ => ?_)
      simp
    rw [e4, e5]
    exact k H3 (E2.trans e3)
theorem e_hours_between {ta tb tc td : TE} {σ : L2.St} {H : Hp} {r : Addr} {s : Mu43.State} {q d e : Nat} {E : XK} (h : Ev ta σ H (.ref r)) (S : RosAt CR C H r s) (O : OkT s.turn) (hb : Ev tb σ H (.int q)) (hc : Ev tc σ H (.int d)) (hd : Ev td σ H (.int e)) (hde : d ≤ e) (he : e ≤ 300) : Ev (tMeth CR "hours_between" (spHoursB CR C) [] E ta (tCons tb (tCons tc (tCons td tNil)))) σ H (.int (Mu43.stood s q ((e - d) * Mu43.watches s.turn) (Mu43.number s.turn d 0) : Nat)) := by
  obtain ⟨dx, a, x, d', vs, h1, h2, h3, h4, h5⟩ := S.ex
  exact ev_meth h h1 (roNo a x d' (by decide +kernel)) (ea_cons hb (ea_cons hc (ea_cons hd ea_nil))) fun H1 e1 Q k E => ⟨r, s, q, d, e, rfl, S.mono e1, O, hde, he, k⟩
theorem p_stands_twice_at (Z : Top K mg C CR) : MeP P w K mg base CR 3 "stands_twice_at" ["self", "place"] (spTwiceAt CR C) := by
  obtain ⟨f, fd, F, b, m⟩ := Z.m_Roster_stands_twice_at
  obtain ⟨f_team_at, fd_team_at, G_team_at, b_team_at, m_team_at⟩ := p_team_at (P := P) (w := w) (base := base) Z
  have T := Z.T
  refine ⟨f, fd, F.ok sc_Roster_stands_twice_at (fun vs H Q E h => ?_) (fun cdv A outer s H vs Q E hr h => ?_), b, m⟩
  · obtain ⟨r, s, g, rfl, _⟩ := h
    rfl
  · obtain ⟨r, s', g, rfl, S, O, k⟩ := h
    have nd := sc_Roster_stands_twice_at.nd
    have hr_team_at : Room 2 _ := hr.mono (by decide)
    refine ⟨_, (pss_cons (ps_set (i := 2) nd rfl (Or.inl rfl) (pe_meth (pv 0) T.clRoster m_team_at G_team_at hr_team_at b_team_at .nil pass0 (pa_cons (pv 1) pa_nil))) (pss_one (ps_ret (pe_or (pe_and (pe_cmpR op_gt (pv 1) pe_int (nomark _)) (pe_one (pe_cmpR op_eq (pe_meth (pv 0) T.clRoster m_team_at G_team_at hr_team_at b_team_at .nil pass0 (pa_cons (pe_op op_sub (pv 1) pe_int) pa_nil)) (pv 2) (nomark _)))) (pe_one (pe_cmpR op_eq (pe_meth (pv 0) T.clRoster m_team_at G_team_at hr_team_at b_team_at .nil pass0 (pa_cons (pe_op op_add (pv 1) pe_int) pa_nil)) (pv 2) (nomark _))))))), ?_⟩
    refine q_asg (e_team_at (ev_var rfl) S O (ev_var rfl)) fun H1 e1 => ?_
    refine s_ret (ev_is (ev_orV (ev_andV (ev_op (ev_var rfl) ev_c rv_I0) fun hb => ev_eqI (e_team_at (g := g - 1) (ev_var rfl) (S.mono e1) O (ev_is (ev_op (ev_var rfl) ev_c rv_I0) (congrArg V.int (by have := of_decide_eq_true hb; omega)))) (ev_var rfl)) fun _ => ev_eqI (e_team_at (g := g + 1) (ev_var rfl) (S.mono e1) O (ev_op (ev_var rfl) ev_c rv_I0)) (ev_var rfl)) ?_) fun H2 e2 => k H2 (e1.trans e2)
    refine congrArg V.bl ?_
    rw [dec_nat, dec_nat, Bool.eq_iff_iff, tired_iff]
    simp only [Bool.or_eq_true, Bool.and_eq_true, decide_eq_true_eq]
    constructor
    · rintro (⟨h1, h2⟩ | h)
      · exact .inr ⟨by omega, h2⟩
      · exact .inl h.symm
    · rintro (h | ⟨h1, h2⟩)
      · exact .inr h.symm
      · exact .inl ⟨by omega, h2⟩
theorem e_twice_at {ta tb : TE} {σ : L2.St} {H : Hp} {r : Addr} {s : Mu43.State} {g : Nat} {E : XK} (h : Ev ta σ H (.ref r)) (S : RosAt CR C H r s) (O : OkT s.turn) (hb : Ev tb σ H (.int g)) : Ev (tMeth CR "stands_twice_at" (spTwiceAt CR C) [] E ta (tCons tb tNil)) σ H (.bl (Mu43.tired s g)) := by
  obtain ⟨dx, a, x, d, vs, h1, h2, h3, h4, h5⟩ := S.ex
  exact ev_meth h h1 (roNo a x d (by decide +kernel)) (ea_cons hb ea_nil) fun H1 e Q k E => ⟨r, s, g, rfl, S.mono e, O, k⟩
theorem p_somebody_stands_twice (Z : Top K mg C CR) : MeP P w K mg base CR 4 "somebody_stands_twice" ["self"] (spSomebody CR C) := by
  obtain ⟨f, fd, F, b, m⟩ := Z.m_Roster_somebody_stands_twice
  obtain ⟨f_stands_twice_at, fd_stands_twice_at, G_stands_twice_at, b_stands_twice_at, m_stands_twice_at⟩ := p_stands_twice_at (P := P) (w := w) (base := base) Z
  have T := Z.T
  refine ⟨f, fd, F.ok sc_Roster_somebody_stands_twice (fun vs H Q E h => ?_) (fun cdv A outer s H vs Q E hr h => ?_), b, m⟩
  · obtain ⟨r, s, rfl, _⟩ := h
    rfl
  · obtain ⟨r, s', rfl, S, O, hf, k⟩ := h
    have nd := sc_Roster_somebody_stands_twice.nd
    have hr_stands_twice_at : Room 3 _ := hr.mono (by decide)
    refine ⟨_, (pss_one (ps_ret (pe_lock (pe_callB (cr_any rfl) (by rfl) T.z_any (by decide +kernel) (pa_cons (pe_lc (own := [("place", 1)]) (g := gName 1) (by rfl) nd (pi_keys (pe_fld (pv 0) rfl)) (blkOk_by (own := [("place", 1)]) (N := ["self", "place"]) (sc := defScope s_Roster_somebody_stands_twice) (by decide +kernel)) (fun _ _ _ _ _ => pg_name (i := 1) nd rfl (Or.inl rfl)) (fun _ _ _ _ _ => by exact pts_nil) (fun _ _ _ _ _ => by exact (pe_meth (pv 0) T.clRoster m_stands_twice_at G_stands_twice_at hr_stands_twice_at b_stands_twice_at .nil pass0 (pa_cons (pv 1) pa_nil)))) pa_nil))))), ?_⟩
    obtain ⟨dx, a, x, d, vs, h1, h2, h3, h4, h5⟩ := S.ex
    have hl := flat_len s'.swaps
    have htl := tab_len s'.swaps
    refine s_ret (ev_lock h5 trivial fun od => ?_) fun H1 e1 => k H1 e1
    have nd' : ∀ {c : Addr} {o : HO}, H c = some o → (∀ kvs, o ≠ .dK kvs) → upd H d (.frz od (.dK (tab s'.swaps))) c = some o := fun {c o} hc ho => by
      rw [upd_ne]
      · exact hc
      · intro z
        rw [z, h5] at hc
        exact ho _ (Option.some.inj hc).symm
    have g1 := nd' h1 (fun _ z => nomatch z)
    have SL : RosAt CR C (upd H d (.frz od (.dK (tab s'.swaps)))) r s' := by
      obtain ⟨sx, l, q1, q2⟩ := h2.ex
      exact ⟨dx, a, x, d, vs, g1, ⟨sx, l, nd' q1 (fun _ z => nomatch z), nd' q2 (fun _ z => nomatch z)⟩, nd' h3 (fun _ z => nomatch z), h4.mono (fun p ys hp => nd' hp (fun _ z => nomatch z)), .inr ⟨od, upd_same⟩⟩
    have ea : ((flat s'.swaps).map fun g => Mu43.tired s' g).any id = (flat s'.swaps).any fun g => Mu43.tired s' g := by
      rw [List.any_map]
      rfl
    rw [← ea]
    refine ev_anyN (el_is (el_lcK (fun _ => true) (fun i => V.bl (Mu43.tired s' ((flat s'.swaps).getD i 0))) (ev_fld (ev_var rfl) g1 T.clRoster T.nRoster_partners (roPart a x d)) upd_same (by omega) (fun _ => rfl) (fun i kk y H1 e hi => et_yes) (fun i kk y H1 e hi _ => ?_)) ?_)
    · obtain ⟨_, rfl⟩ := tab_at hi
      exact e_twice_at (ev_var rfl) (SL.mono e) O (ev_var rfl)
    · unfold given
      rw [filter_all fun _ _ => rfl, htl, ← hl]
      apply List.ext_getElem
      · simp
      · intro i q1 q2
        simp only [List.getElem_map, List.getElem_range]
        rw [List.getD_eq_getElem?_getD, List.getElem?_eq_getElem (by simpa using q2)]
        rfl
end
end Sw


namespace Sw
open PySem PySem.Spec PyProof.Rows L2 Evl
def vI (l : List Int) : List V := l.map V.int
theorem vN_nums (l : List Nat) : vN l = vI (Mu43.nums l) := vN_ints l
theorem vI_len (l : List Int) : (vI l).length = l.length := List.length_map _
/-- even: the least and the greatest are the same -/
theorem even_least {t : Mu43.Turn} (O : OkT t) : decide (((Mu43.least ((List.range t.teams).map fun q => Mu43.share t q (Mu43.round t * Mu43.watches t) 0) : Nat) : Int) = ((Mu43.most ((List.range t.teams).map fun q => Mu43.share t q (Mu43.round t * Mu43.watches t) 0) : Nat) : Int)) = Mu43.even t := by
  generalize hL : ((List.range t.teams).map fun q => Mu43.share t q (Mu43.round t * Mu43.watches t) 0) = L
  have t2 := O.t2
  have hne : L ≠ [] := by
    rw [← hL]
    intro e
    have := List.map_eq_nil_iff.mp e
    have h2 : (List.range t.teams).length = 0 := by rw [this]; rfl
    rw [List.length_range] at h2
    omega
  have h0 : Mu43.share t 0 (Mu43.round t * Mu43.watches t) 0 ∈ L := by
    rw [← hL]
    exact List.mem_map.mpr ⟨0, List.mem_range.mpr (by omega), rfl⟩
  have hall : Mu43.even t = true ↔ ∀ y ∈ L, y = Mu43.share t 0 (Mu43.round t * Mu43.watches t) 0 := by
    unfold Mu43.even
    rw [List.all_eq_true, ← hL]
    constructor
    · intro h y hy
      obtain ⟨q, hq, rfl⟩ := List.mem_map.mp hy
      exact eq_of_beq (h q hq)
    · intro h q hq
      exact beq_iff_eq.mpr (h _ (List.mem_map.mpr ⟨q, hq, rfl⟩))
  have hml := least_mem hne
  have hmm := most_mem hne
  rw [dec_nat]
  by_cases c : Mu43.even t = true
  · rw [c]
    have h := hall.mp c
    exact decide_eq_true ((h _ hml).trans (h _ hmm).symm)
  · have ef : Mu43.even t = false := by simpa using c
    rw [ef]
    refine decide_eq_false fun e => c (hall.mpr fun y hy => ?_)
    have h1 := least_le hy
    have h2 := le_most hy
    have h3 := least_le h0
    have h4 := le_most h0
    omega
section
variable (CR C : Addr)
def spARound : Sp := fun vs H Q _ => ∃ (a : Addr) (t : Mu43.Turn), vs = [.ref a] ∧ ShipAt C H a t ∧ OkT t ∧ RetL (vI (Mu43.nums [Mu43.round t, if Mu43.fair t = true then 1 else 0])) H Q
def spAEven : Sp := fun vs H Q _ => ∃ (a : Addr) (t : Mu43.Turn), vs = [.ref a] ∧ ShipAt C H a t ∧ OkT t ∧ RetL (vI ((if Mu43.even t = true then 1 else 0) :: Mu43.nums ((List.range t.teams).map fun (a : Nat) => Mu43.share t a (Mu43.round t * Mu43.watches t) 0))) H Q
def aRests (t : Mu43.Turn) (q : Nat) : List Int := if t.teams ≤ q then [-2] else Mu43.nums [Mu43.least (Mu43.rests t q), Mu43.most (Mu43.rests t q)]
def spARests : Sp := fun vs H Q _ => ∃ (a : Addr) (t : Mu43.Turn) (q : Nat), vs = [.ref a, .int q] ∧ ShipAt C H a t ∧ OkT t ∧ RetL (vI (aRests t q)) H Q
def aDay (s : Mu43.State) (d : Nat) : List Int := if Mu43.LATE < d then [-1] else Mu43.nums ((List.range (Mu43.watches s.turn)).map fun (w : Nat) => Mu43.who s (Mu43.number s.turn d w))
def spADay : Sp := fun vs H Q _ => ∃ (r : Addr) (s : Mu43.State) (d : Nat), vs = [.ref r, .int d] ∧ RosAt CR C H r s ∧ OkT s.turn ∧ RetL (vI (aDay s d)) H Q
def aHours (s : Mu43.State) (a d e : Nat) : List Int := if s.turn.teams ≤ a then [-2] else if Mu43.LATE < d ∨ Mu43.LATE < e ∨ e < d then [-1] else Mu43.nums [Mu43.stood s a ((e - d) * Mu43.watches s.turn) (Mu43.number s.turn d 0)]
def spAHours : Sp := fun vs H Q _ => ∃ (r : Addr) (s : Mu43.State) (q d e : Nat), vs = [.ref r, .int q, .int d, .int e] ∧ RosAt CR C H r s ∧ OkT s.turn ∧ RetL (vI (aHours s q d e)) H Q
def aWho (s : Mu43.State) (d h : Nat) : List Int := if Mu43.LATE < d ∨ Mu43.HOURS ≤ h then [-1] else Mu43.nums [(Mu43.watchAt s.turn.long h).1, Mu43.who s (Mu43.number s.turn d (Mu43.watchAt s.turn.long h).1), (Mu43.watchAt s.turn.long h).2]
def spAWho : Sp := fun vs H Q _ => ∃ (r : Addr) (s : Mu43.State) (d h : Nat), vs = [.ref r, .int d, .int h] ∧ RosAt CR C H r s ∧ OkT s.turn ∧ RetL (vI (aWho s d h)) H Q
def spWatchOf : Sp := fun vs H Q _ => ∃ (a : Addr) (t : Mu43.Turn) (d w : Nat), vs = [.ref a, .int d, .int w] ∧ ShipAt C H a t ∧ RetV (.bl (decide (d ≤ 200 ∧ w < t.long.length))) H Q
def aComes (t : Mu43.Turn) (a w d : Nat) : List Int := if t.teams ≤ a then [-2] else if Mu43.watches t ≤ w ∨ Mu43.LATE < d then [-1] else match Mu43.comes t a w d with
    | none => [-6]
    | some x => [(x : Int)]
def spAComes : Sp := fun vs H Q _ => ∃ (a : Addr) (t : Mu43.Turn) (q w d : Nat), vs = [.ref a, .int q, .int w, .int d] ∧ ShipAt C H a t ∧ OkT t ∧ RetL (vI (aComes t q w d)) H Q
end
def aCuts (k lo hi : Nat) : List Int := if k < 2 ∨ 8 < k ∨ lo = 0 ∨ Mu43.HOURS < hi then [-1] else Mu43.nums (Mu43.ways lo hi k Mu43.HOURS :: (if Mu43.ways lo hi k Mu43.HOURS = 0 then [] else Mu43.cut lo hi k Mu43.HOURS))
def spACuts : Sp := fun vs H Q _ => ∃ (k lo hi : Nat), vs = [.int k, .int lo, .int hi] ∧ lo ≤ 30 ∧ RetL (vI (aCuts k lo hi)) H Q
def aKinds (n : Nat) : List Int := if n < 2 ∨ 5 < n then [-1] else Mu43.nums (([2, 3, 4, 5, 6, 7, 8].filter fun (k : Nat) => Nat.gcd n k == 1).length :: [2, 3, 4, 5, 6, 7, 8].filter fun (k : Nat) => Nat.gcd n k == 1)
def spAKinds : Sp := fun vs H Q _ => ∃ (n : Nat), vs = [.int n] ∧ RetL (vI (aKinds n)) H Q
section
variable {P : Program} {w : World} {K : PySem.W.Frag} {mg : Str → Option Value} {base : Heap} {C CR : Addr}
theorem p_answer_who (Z : Top K mg C CR) : FnP P w K mg base 3 "answer_who" ["roster", "day", "hour"] (spAWho CR C) := by
  obtain ⟨f, fd, F, b, m, kp⟩ := Z.f_answer_who
  obtain ⟨f_team_at, fd_team_at, G_team_at, b_team_at, m_team_at⟩ := p_team_at (P := P) (w := w) (base := base) Z
  obtain ⟨f_place_of, fd_place_of, G_place_of, b_place_of, m_place_of⟩ := p_place_of (P := P) (w := w) (base := base) Z
  have T := Z.T
  obtain ⟨_, c_LAST_DAY⟩ := T.c_LAST_DAY
  obtain ⟨_, c_DAY_HOURS⟩ := T.c_DAY_HOURS
  obtain ⟨_, c_NOT_AS_TOLD⟩ := T.c_NOT_AS_TOLD
  refine ⟨f, fd, F.ok sc_answer_who (fun vs H Q E h => ?_) (fun cdv A outer s H vs Q E hr h => ?_), b, m, kp⟩
  · obtain ⟨r, s, d, h, rfl, _⟩ := h
    rfl
  · obtain ⟨r, s', dd, h, rfl, S, O, k⟩ := h
    have nd := sc_answer_who.nd
    have hr_team_at : Room 2 _ := hr.mono (by decide)
    have hr_place_of : Room 2 _ := hr.mono (by decide)
    refine ⟨_, (pss_cons (ps_if (PW.pt (pw_or (pt_cmpR op_gt (pv 1) (pe_gint rfl c_LAST_DAY) (nomark _)) (pw_or1 (pt_cmpR op_ge (pv 2) (pe_gint rfl c_DAY_HOURS) (nomark _))))) (pss_one (ps_ret (pe_lst (pa_cons (pe_gint rfl c_NOT_AS_TOLD) pa_nil)))) pss_nil) (pss_cons (ps_set (i := 3) nd rfl (Or.inl rfl) (pe_fld (pv 0) rfl)) (pss_cons (ps_set (i := 4) nd rfl (Or.inl rfl) pe_int) (pss_cons (ps_set (i := 5) nd rfl (Or.inl rfl) (pe_ix ix_list (pe_fld (pv 3) rfl) pe_int (fun _ _ => rfl))) (pss_cons (ps_while PassesOwn.never (pt_cmpR op_le (pv 5) (pv 2) (nomark _)) (pss_cons (ps_set (i := 4) nd rfl (Or.inl rfl) (pe_op op_add (pv 4) pe_int)) (pss_one (ps_set (i := 5) nd rfl (Or.inl rfl) (pe_op op_add (pv 5) (pe_ix ix_list (pe_fld (pv 3) rfl) (pv 4) (fun _ _ => rfl))))))) (pss_one (ps_ret (pe_lst (pa_cons (pv 4) (pa_cons (pe_meth (pv 0) T.clRoster m_team_at G_team_at hr_team_at b_team_at .nil pass0 (pa_cons (pe_meth (pv 3) T.clShip m_place_of G_place_of hr_place_of b_place_of .nil pass0 (pa_cons (pv 1) (pa_cons (pv 4) pa_nil))) pa_nil)) (pa_cons (pe_op op_sub (pv 5) (pv 2)) pa_nil))))))))))), ?_⟩
    obtain ⟨dx, a, x, d, vs, h1, h2, h3, h4, h5⟩ := S.ex
    obtain ⟨sx, l, ho, hl⟩ := h2.ex
    unfold aWho at k
    refine q_when (et_or (et_I0 (ev_var rfl) ev_c) fun _ => et_I0 (ev_var rfl) ev_c) (fun hb H1 e1 => ?_) (fun hb H1 e1 => ?_)
    · have hc : Mu43.LATE < dd ∨ Mu43.HOURS ≤ h := by
        simp only [Bool.or_eq_true, decide_eq_true_eq] at hb
        show 200 < dd ∨ 24 ≤ h
        omega
      rw [if_pos hc] at k
      exact s_retL (el_lst (ea_cons ev_c ea_nil) (by simp)) fun p H2 hp e2 h2 => k p H2 (fresh_back e1 hp) (e1.trans e2) h2
    · have hc : ¬ (200 < dd ∨ 24 ≤ h) := by
        simp only [Bool.or_eq_false_iff, decide_eq_false_iff_not] at hb
        omega
      rw [if_neg (show ¬ (Mu43.LATE < dd ∨ Mu43.HOURS ≤ h) from hc)] at k
      have w2 := O.w2
      have hsum : s'.turn.long.sum = 24 := by rw [← total_sum]; exact O.sum
      refine q_asg (ev_fld (ev_var rfl) (e1 _ _ h1) T.clRoster T.nRoster_ship (roShip a x d)) fun H1' e1' => ?_
      refine q_asg ev_c fun H2 e2 => ?_
      have e12 := (e1.trans e1').trans e2
      refine q_asg (ev_op (ev_fld (ev_var rfl) (e12 _ _ ho) T.clShip T.nShip_lengths (shLengths s'.turn l)) ev_c (rv_ixL (sq_of (e12 _ _ hl)) (atI_int (j := 0) rfl (vN_get (by omega))))) fun H3 e3 => ?_
      have e123 := e12.trans e3
      refine q_while (fun m σ' H' => ∃ j : Nat, j < s'.turn.long.length ∧ m = s'.turn.long.length - j ∧ (s'.turn.long.take j).sum ≤ h ∧ σ' = [some (.ref r), some (.int dd), some (.int h), some (.ref a), some (.int (j : Int)), some (.int ((s'.turn.long.take (j + 1)).sum : Nat))] ∧ Ex H H') s'.turn.long.length ⟨0, by omega, rfl, by simp, ?_, e123⟩ ?_
      · rw [take_sum_succ (by omega)]
        simp
        rfl
      rintro m σ' H' ⟨j, hj, rfl, hs, rfl, e⟩
      refine ⟨_, et_I0 (ev_var rfl) (ev_var rfl), fun hb2 H4 e4 => ?_, fun hb2 H4 e4 => ?_⟩
      · have hle : (s'.turn.long.take (j + 1)).sum ≤ h := by
          have := of_decide_eq_true hb2
          omega
        have hj2 : j + 1 < s'.turn.long.length := by
          rcases Nat.lt_or_ge (j + 1) s'.turn.long.length with c | c
          · exact c
          · rw [List.take_of_length_le c] at hle
            omega
        refine ⟨fun σ2 H2' => ∃ m', m' < s'.turn.long.length - j ∧ ∃ j' : Nat, j' < s'.turn.long.length ∧ m' = s'.turn.long.length - j' ∧ (s'.turn.long.take j').sum ≤ h ∧ σ2 = [some (.ref r), some (.int dd), some (.int h), some (.ref a), some (.int (j' : Int)), some (.int ((s'.turn.long.take (j' + 1)).sum : Nat))] ∧ Ex H H2', fun _ _ h => h, ?_⟩
        refine q_asg (ev_op (ev_var rfl) ev_c rv_I0) fun H5 e5 => ?_
        have ee := (e.trans e4).trans e5
        refine s_asg (ev_op (ev_var rfl) (ev_op (ev_fld (ev_var rfl) (ee _ _ ho) T.clShip T.nShip_lengths (shLengths s'.turn l)) (ev_var rfl) (rv_ixL (sq_of (ee _ _ hl)) (atI_int (j := j + 1) (by push_cast; rfl) (vN_get hj2)))) rv_I0) fun H6 e6 => ?_
        refine ⟨s'.turn.long.length - (j + 1), by omega, j + 1, hj2, rfl, hle, ?_, ee.trans e6⟩
        rw [take_sum_succ hj2]
        push_cast
        rfl
      · have hlt : h < (s'.turn.long.take (j + 1)).sum := by
          have := of_decide_eq_false hb2
          omega
        have ew := watchAt_here hj hs hlt
        rw [ew] at k
        refine s_retL (el_is (el_lst (ea_cons (ev_var rfl) (ea_cons (e_team_at (ev_var rfl) (S.mono (e.trans e4)) O (e_place_of (ev_var rfl) (h2.mono (e.trans e4)) O (ev_var rfl) (ev_var rfl))) (ea_cons (ev_op (ev_var rfl) (ev_var rfl) rv_I0) ea_nil))) (by simp)) ?_) fun p H5 hp e5 h5 => k p H5 (fresh_back (e.trans e4) hp) ((e.trans e4).trans e5) h5
        have es : (((s'.turn.long.take (j + 1)).sum : Nat) : Int) - (h : Int) = (((s'.turn.long.take (j + 1)).sum - h : Nat) : Int) := by omega
        rw [es]
        rfl
theorem l_who {H : Hp} {r : Addr} {s : Mu43.State} {d h : Nat} (S : RosAt CR C H r s) (O : OkT s.turn) : SpL (spAWho CR C) [.ref r, .int d, .int h] H (vI (aWho s d h)) := fun H1 e Q k E => ⟨r, s, d, h, rfl, S.mono e, O, k⟩
theorem p_answer_day (Z : Top K mg C CR) : FnP P w K mg base 4 "answer_day" ["roster", "day"] (spADay CR C) := by
  obtain ⟨f, fd, F, b, m, kp⟩ := Z.f_answer_day
  obtain ⟨f_teams_on, fd_teams_on, G_teams_on, b_teams_on, m_teams_on⟩ := p_teams_on (P := P) (w := w) (base := base) Z
  have T := Z.T
  obtain ⟨_, c_LAST_DAY⟩ := T.c_LAST_DAY
  obtain ⟨_, c_NOT_AS_TOLD⟩ := T.c_NOT_AS_TOLD
  refine ⟨f, fd, F.ok sc_answer_day (fun vs H Q E h => ?_) (fun cdv A outer s H vs Q E hr h => ?_), b, m, kp⟩
  · obtain ⟨r, s, d, rfl, _⟩ := h
    rfl
  · obtain ⟨r, s', dd, rfl, S, O, k⟩ := h
    have nd := sc_answer_day.nd
    have hr_teams_on : Room 3 _ := hr.mono (by decide)
    refine ⟨_, (pss_cons (ps_if (pt_cmpR op_gt (pv 1) (pe_gint rfl c_LAST_DAY) (nomark _)) (pss_one (ps_ret (pe_lst (pa_cons (pe_gint rfl c_NOT_AS_TOLD) pa_nil)))) pss_nil) (pss_one (ps_ret (pe_meth (pv 0) T.clRoster m_teams_on G_teams_on hr_teams_on b_teams_on .nil pass0 (pa_cons (pv 1) pa_nil))))), ?_⟩
    unfold aDay at k
    refine q_when (et_I0 (ev_var rfl) ev_c) (fun hb H1 e1 => ?_) (fun hb H1 e1 => ?_)
    · have hq : Mu43.LATE < dd := by
        have h := of_decide_eq_true hb
        show 200 < dd
        omega
      rw [if_pos hq] at k
      exact s_retL (el_lst (ea_cons ev_c ea_nil) (by simp)) fun p H2 hp e2 h2 => k p H2 (fresh_back e1 hp) (e1.trans e2) h2
    · have hq : ¬ Mu43.LATE < dd := by
        have h := of_decide_eq_false hb
        show ¬ 200 < dd
        omega
      rw [if_neg hq, ← vN_nums] at k
      exact s_retL (l_teams_on (ev_var rfl) (S.mono e1) O (ev_var rfl)) fun p H2 hp e2 h2 => k p H2 (fresh_back e1 hp) (e1.trans e2) h2
theorem l_day {H : Hp} {r : Addr} {s : Mu43.State} {d : Nat} (S : RosAt CR C H r s) (O : OkT s.turn) : SpL (spADay CR C) [.ref r, .int d] H (vI (aDay s d)) := fun H1 e Q k E => ⟨r, s, d, rfl, S.mono e, O, k⟩
theorem p_answer_round (Z : Top K mg C CR) : FnP P w K mg base 4 "answer_round" ["ship"] (spARound C) := by
  obtain ⟨f, fd, F, b, m, kp⟩ := Z.f_answer_round
  obtain ⟨f_round_days, fd_round_days, G_round_days, b_round_days, m_round_days⟩ := p_round_days (P := P) (w := w) (base := base) Z
  obtain ⟨f_is_fair, fd_is_fair, G_is_fair, b_is_fair, m_is_fair⟩ := p_is_fair (P := P) (w := w) (base := base) Z
  have T := Z.T
  refine ⟨f, fd, F.ok sc_answer_round (fun vs H Q E h => ?_) (fun cdv A outer s H vs Q E hr h => ?_), b, m, kp⟩
  · obtain ⟨a, t, rfl, _⟩ := h
    rfl
  · obtain ⟨a, t, rfl, S, O, k⟩ := h
    have nd := sc_answer_round.nd
    have hr_round_days : Room 2 _ := hr.mono (by decide)
    have hr_is_fair : Room 3 _ := hr.mono (by decide)
    refine ⟨_, (pss_one (ps_ret (pe_lst (pa_cons (pe_meth0 (pv 0) T.clShip m_round_days G_round_days hr_round_days b_round_days .nil pass0) (pa_cons (pe_ifExp (pt_val (pe_meth0 (pv 0) T.clShip m_is_fair G_is_fair hr_is_fair b_is_fair .nil pass0)) pe_int pe_int) pa_nil))))), ?_⟩
    refine s_retL (el_is (el_lst (ea_cons (e_round_days (ev_var rfl) S O) (ea_cons (ev_if (v := .int ((if Mu43.fair t = true then 1 else 0 : Nat) : Int)) (et_B (e_is_fair (ev_var rfl) S O)) (fun hb => ev_is ev_c (by rw [if_pos hb]; rfl)) (fun hb => ev_is ev_c (by rw [hb]; rfl))) ea_nil)) (by simp)) ?_) k
    rw [← vN_nums]
    rfl
theorem l_round {H : Hp} {a : Addr} {t : Mu43.Turn} (S : ShipAt C H a t) (O : OkT t) : SpL (spARound C) [.ref a] H (vI (Mu43.nums [Mu43.round t, if Mu43.fair t = true then 1 else 0])) := fun H1 e Q k E => ⟨a, t, rfl, S.mono e, O, k⟩
theorem p_answer_even (Z : Top K mg C CR) : FnP P w K mg base 5 "answer_even" ["ship"] (spAEven C) := by
  obtain ⟨f, fd, F, b, m, kp⟩ := Z.f_answer_even
  obtain ⟨f_hours_in_round, fd_hours_in_round, G_hours_in_round, b_hours_in_round, m_hours_in_round⟩ := p_hours_in_round (P := P) (w := w) (base := base) Z
  have T := Z.T
  refine ⟨f, fd, F.ok sc_answer_even (fun vs H Q E h => ?_) (fun cdv A outer s H vs Q E hr h => ?_), b, m, kp⟩
  · obtain ⟨a, t, rfl, _⟩ := h
    rfl
  · obtain ⟨a, t, rfl, S, O, k⟩ := h
    have nd := sc_answer_even.nd
    have hr_hours_in_round : Room 4 _ := hr.mono (by decide)
    refine ⟨_, (pss_cons (ps_setLc (i := 1) (own := [("team", 2)]) (g := gName 2) (by rfl) nd rfl rfl (sw_true rfl rfl rfl (by decide +kernel)) (pi_range1 (by rfl) T.z_range (pa_cons (pe_fld (pv 0) rfl) pa_nil)) (blkOk_by (own := [("team", 2)]) (N := ["ship", "hours", "team"]) (sc := defScope s_answer_even) (by decide +kernel)) (fun _ _ _ _ _ => pg_name (i := 2) nd rfl (Or.inl rfl)) (fun _ _ _ _ _ => by exact pts_nil) (fun _ _ _ _ _ => by exact (pe_meth (pv 0) T.clShip m_hours_in_round G_hours_in_round hr_hours_in_round b_hours_in_round .nil pass0 (pa_cons (pv 2) pa_nil)))) (pss_one (ps_ret (pe_op op_cat (pe_lst (pa_cons (pe_ifExp (pt_cmpR op_eq (pe_callB (cr_min rfl) (by rfl) T.z_min (by decide +kernel) (pa_cons (pv 1) pa_nil)) (pe_callB (cr_max rfl) (by rfl) T.z_max (by decide +kernel) (pa_cons (pv 1) pa_nil)) (nomark _)) pe_int pe_int) pa_nil)) (pv 1))))), ?_⟩
    obtain ⟨dx, l, ho, hl⟩ := S.ex
    have t2 := O.t2
    have t5 := O.t5
    refine q_asgL (el_is (el_lcR1 (fun _ => true) (fun q => V.int ((Mu43.share t q (Mu43.round t * Mu43.watches t) 0 : Nat) : Int)) (ea_cons (ev_fld (ev_var rfl) ho T.clShip T.nShip_teams (shTeams t l)) ea_nil) ⟨by omega, by omega⟩ (fun _ => rfl) (fun i H1 e hi => et_yes)
      (fun i H2 e hi _ => e_hours_in_round (ev_var rfl) (S.mono e) O (ev_var rfl))) (given_all _ _)) fun p H1 hp e1 h1 => ?_
    rw [Int.toNat_natCast] at h1
    have hne : ((List.range t.teams).map fun q => Mu43.share t q (Mu43.round t * Mu43.watches t) 0) ≠ [] := by
      intro e
      have h2 : ((List.range t.teams).map fun q => Mu43.share t q (Mu43.round t * Mu43.watches t) 0).length = 0 := by rw [e]; rfl
      rw [List.length_map, List.length_range] at h2
      omega
    refine s_retL (el_is (el_catR (xs := [.int (if Mu43.even t = true then 1 else 0)]) (el_lst (ea_cons (ev_if (et_is (et_eqI (ev_minNat (ev_var rfl) (sq_of h1) hne) (ev_maxNat (ev_var rfl) (sq_of h1) hne)) (even_least O)) (fun hb => ev_is ev_c (by rw [hb]; rfl)) (fun hb => ev_is ev_c (by rw [hb]; rfl))) ea_nil) (by simp)) (ev_var rfl) h1 (by rw [vN_len, List.length_map, List.length_range]; show 1 + t.teams ≤ 100000; omega)) ?_) fun r H2 hp2 e2 h2 => k r H2 (fresh_back e1 hp2) (e1.trans e2) h2
    rw [vN_nums]
    rfl
theorem l_even {H : Hp} {a : Addr} {t : Mu43.Turn} (S : ShipAt C H a t) (O : OkT t) : SpL (spAEven C) [.ref a] H (vI ((if Mu43.even t = true then 1 else 0) :: Mu43.nums ((List.range t.teams).map fun (a : Nat) => Mu43.share t a (Mu43.round t * Mu43.watches t) 0))) := fun H1 e1 Q k E => ⟨a, t, rfl, S.mono e1, O, k⟩
theorem p_answer_hours (Z : Top K mg C CR) : FnP P w K mg base 4 "answer_hours" ["roster", "team", "begin_day", "end_day"] (spAHours CR C) := by
  obtain ⟨f, fd, F, b, m, kp⟩ := Z.f_answer_hours
  obtain ⟨f_has_team, fd_has_team, G_has_team, b_has_team, m_has_team⟩ := p_has_team (P := P) (w := w) (base := base) Z
  obtain ⟨f_hours_between, fd_hours_between, G_hours_between, b_hours_between, m_hours_between⟩ := p_hours_between (P := P) (w := w) (base := base) Z
  have T := Z.T
  obtain ⟨_, c_NOT_THERE⟩ := T.c_NOT_THERE
  obtain ⟨_, c_LAST_DAY⟩ := T.c_LAST_DAY
  obtain ⟨_, c_NOT_AS_TOLD⟩ := T.c_NOT_AS_TOLD
  refine ⟨f, fd, F.ok sc_answer_hours (fun vs H Q E h => ?_) (fun cdv A outer s H vs Q E hr h => ?_), b, m, kp⟩
  · obtain ⟨r, s, q, d, e, rfl, _⟩ := h
    rfl
  · obtain ⟨r, s', q, dd, ee, rfl, S, O, k⟩ := h
    have nd := sc_answer_hours.nd
    have hr_has_team : Room 1 _ := hr.mono (by decide)
    have hr_hours_between : Room 3 _ := hr.mono (by decide)
    refine ⟨_, (pss_cons (ps_if (pt_not (pt_val (pe_meth (pe_fld (pv 0) rfl) T.clShip m_has_team G_has_team hr_has_team b_has_team .nil pass0 (pa_cons (pv 1) pa_nil)))) (pss_one (ps_ret (pe_lst (pa_cons (pe_gint rfl c_NOT_THERE) pa_nil)))) pss_nil) (pss_cons (ps_if (PW.pt (pw_or (pt_cmpR op_gt (pv 2) (pe_gint rfl c_LAST_DAY) (nomark _)) (pw_or (pt_cmpR op_gt (pv 3) (pe_gint rfl c_LAST_DAY) (nomark _)) (pw_or1 (pt_cmpR op_lt (pv 3) (pv 2) (nomark _)))))) (pss_one (ps_ret (pe_lst (pa_cons (pe_gint rfl c_NOT_AS_TOLD) pa_nil)))) pss_nil) (pss_one (ps_ret (pe_lst (pa_cons (pe_meth (pv 0) T.clRoster m_hours_between G_hours_between hr_hours_between b_hours_between .nil pass0 (pa_cons (pv 1) (pa_cons (pv 2) (pa_cons (pv 3) pa_nil)))) pa_nil)))))), ?_⟩
    obtain ⟨dx, a, x, d, vs, h1, h2, h3, h4, h5⟩ := S.ex
    unfold aHours at k
    refine q_when (et_not (et_B (e_has_team (ev_fld (ev_var rfl) h1 T.clRoster T.nRoster_ship (roShip a x d)) h2 (ev_var rfl)))) (fun hb H1 e1 => ?_) (fun hb H1 e1 => ?_)
    · have hq : s'.turn.teams ≤ q := by simpa using hb
      rw [if_pos hq] at k
      exact s_retL (el_lst (ea_cons ev_c ea_nil) (by simp)) fun p H2 hp e2 h2 => k p H2 (fresh_back e1 hp) (e1.trans e2) h2
    · have hq : ¬ s'.turn.teams ≤ q := by simpa using hb
      rw [if_neg hq] at k
      refine q_when (et_or (et_I0 (ev_var rfl) ev_c) fun _ => et_or (et_I0 (ev_var rfl) ev_c) fun _ => et_I0 (ev_var rfl) (ev_var rfl)) (fun hb2 H2 e2 => ?_) (fun hb2 H2 e2 => ?_)
      · have hc : Mu43.LATE < dd ∨ Mu43.LATE < ee ∨ ee < dd := by
          simp only [Bool.or_eq_true, decide_eq_true_eq] at hb2
          show 200 < dd ∨ 200 < ee ∨ ee < dd
          omega
        rw [if_pos hc] at k
        exact s_retL (el_lst (ea_cons ev_c ea_nil) (by simp)) fun p H3 hp e3 h3 => k p H3 (fresh_back (e1.trans e2) hp) ((e1.trans e2).trans e3) h3
      · have hc0 : ¬ (200 < dd ∨ 200 < ee ∨ ee < dd) := by
          simp only [Bool.or_eq_false_iff, decide_eq_false_iff_not] at hb2
          omega
        have hc : ¬ (Mu43.LATE < dd ∨ Mu43.LATE < ee ∨ ee < dd) := hc0
        rw [if_neg hc] at k
        exact s_retL (el_lst (ea_cons (e_hours_between (ev_var rfl) (S.mono (e1.trans e2)) O (ev_var rfl) (ev_var rfl) (ev_var rfl) (by omega) (by omega)) ea_nil) (by simp)) fun p H3 hp e3 h3 => k p H3 (fresh_back (e1.trans e2) hp) ((e1.trans e2).trans e3) h3
theorem l_hours {H : Hp} {r : Addr} {s : Mu43.State} {q d e : Nat} (S : RosAt CR C H r s) (O : OkT s.turn) : SpL (spAHours CR C) [.ref r, .int q, .int d, .int e] H (vI (aHours s q d e)) := fun H1 e1 Q k E => ⟨r, s, q, d, e, rfl, S.mono e1, O, k⟩
theorem p_answer_rests (Z : Top K mg C CR) : FnP P w K mg base 5 "answer_rests" ["ship", "team"] (spARests C) := by
  obtain ⟨f, fd, F, b, m, kp⟩ := Z.f_answer_rests
  obtain ⟨f_rests_of, fd_rests_of, G_rests_of, b_rests_of, m_rests_of⟩ := p_rests_of (P := P) (w := w) (base := base) Z
  obtain ⟨f_has_team, fd_has_team, G_has_team, b_has_team, m_has_team⟩ := p_has_team (P := P) (w := w) (base := base) Z
  have T := Z.T
  obtain ⟨_, c_NOT_THERE⟩ := T.c_NOT_THERE
  refine ⟨f, fd, F.ok sc_answer_rests (fun vs H Q E h => ?_) (fun cdv A outer s H vs Q E hr h => ?_), b, m, kp⟩
  · obtain ⟨a, t, q, rfl, _⟩ := h
    rfl
  · obtain ⟨a, t, q, rfl, S, O, k⟩ := h
    have nd := sc_answer_rests.nd
    have hr_rests_of : Room 4 _ := hr.mono (by decide)
    have hr_has_team : Room 1 _ := hr.mono (by decide)
    refine ⟨_, (pss_cons (ps_if (pt_not (pt_val (pe_meth (pv 0) T.clShip m_has_team G_has_team hr_has_team b_has_team .nil pass0 (pa_cons (pv 1) pa_nil)))) (pss_one (ps_ret (pe_lst (pa_cons (pe_gint rfl c_NOT_THERE) pa_nil)))) pss_nil) (pss_cons (ps_set (i := 2) nd rfl (Or.inl rfl) (pe_meth (pv 0) T.clShip m_rests_of G_rests_of hr_rests_of b_rests_of .nil pass0 (pa_cons (pv 1) pa_nil))) (pss_one (ps_ret (pe_lst (pa_cons (pe_callB (cr_min rfl) (by rfl) T.z_min (by decide +kernel) (pa_cons (pv 2) pa_nil)) (pa_cons (pe_callB (cr_max rfl) (by rfl) T.z_max (by decide +kernel) (pa_cons (pv 2) pa_nil)) pa_nil))))))), ?_⟩
    unfold aRests at k
    refine q_when (et_not (et_B (e_has_team (ev_var rfl) S (ev_var rfl)))) (fun hb H1 e1 => ?_) (fun hb H1 e1 => ?_)
    · have hq : t.teams ≤ q := by simpa using hb
      rw [if_pos hq] at k
      exact s_retL (el_lst (ea_cons ev_c ea_nil) (by simp)) fun p H2 hp e2 h2 => k p H2 (fresh_back e1 hp) (e1.trans e2) h2
    · have hq : ¬ t.teams ≤ q := by simpa using hb
      rw [if_neg hq] at k
      have hne := rests_ne O (q := q) (by omega)
      refine q_asgL (l_rests_of (ev_var rfl) (S.mono e1) O (ev_var rfl)) fun p H2 hp e2 h2 => ?_
      exact s_retL (el_lst (ea_cons (ev_minNat (ev_var rfl) (sq_of h2) hne) (ea_cons (ev_maxNat (ev_var rfl) (sq_of h2) hne) ea_nil)) (by simp)) fun r H3 hp3 e3 h3 => k r H3 (fresh_back (e1.trans e2) hp3) ((e1.trans e2).trans e3) h3
theorem l_rests {H : Hp} {a : Addr} {t : Mu43.Turn} {q : Nat} (S : ShipAt C H a t) (O : OkT t) : SpL (spARests C) [.ref a, .int q] H (vI (aRests t q)) := fun H1 e1 Q k E => ⟨a, t, q, rfl, S.mono e1, O, k⟩
theorem p_is_watch_of (Z : Top K mg C CR) : FnP P w K mg base 3 "is_watch_of" ["ship", "day", "watch"] (spWatchOf C) := by
  obtain ⟨f, fd, F, b, m, kp⟩ := Z.f_is_watch_of
  obtain ⟨f_has_watch, fd_has_watch, G_has_watch, b_has_watch, m_has_watch⟩ := p_has_watch (P := P) (w := w) (base := base) Z
  have T := Z.T
  obtain ⟨_, c_LAST_DAY⟩ := T.c_LAST_DAY
  refine ⟨f, fd, F.ok sc_is_watch_of (fun vs H Q E h => ?_) (fun cdv A outer s H vs Q E hr h => ?_), b, m, kp⟩
  · obtain ⟨a, t, d, w, rfl, _⟩ := h
    rfl
  · obtain ⟨a, t, dd, ww, rfl, S, k⟩ := h
    have nd := sc_is_watch_of.nd
    have hr_has_watch : Room 2 _ := hr.mono (by decide)
    refine ⟨_, (pss_one (ps_ret (pe_and (pe_cmpR op_le (pv 1) (pe_gint rfl c_LAST_DAY) (nomark _)) (pe_one (pe_meth (pv 0) T.clShip m_has_watch G_has_watch hr_has_watch b_has_watch .nil pass0 (pa_cons (pv 2) pa_nil)))))), ?_⟩
    refine s_ret (ev_is (ev_andV (ev_op (ev_var rfl) ev_c rv_I0) fun _ => e_has_watch (ev_var rfl) S (ev_var rfl)) ?_) fun H1 e1 => k H1 e1
    refine congrArg V.bl ?_
    rw [Bool.eq_iff_iff]
    simp only [Bool.and_eq_true, decide_eq_true_eq]
    omega
theorem v_watch_of {H : Hp} {a : Addr} {t : Mu43.Turn} {d w : Nat} (S : ShipAt C H a t) : SpV (spWatchOf C) [.ref a, .int d, .int w] H (.bl (decide (d ≤ 200 ∧ w < t.long.length))) := fun H1 e1 Q k E => ⟨a, t, d, w, rfl, S.mono e1, k⟩
theorem p_answer_comes (Z : Top K mg C CR) : FnP P w K mg base 4 "answer_comes" ["ship", "team", "watch", "day"] (spAComes C) := by
  obtain ⟨f, fd, F, b, m, kp⟩ := Z.f_answer_comes
  obtain ⟨f_day_it_comes, fd_day_it_comes, G_day_it_comes, b_day_it_comes, m_day_it_comes⟩ := p_day_it_comes (P := P) (w := w) (base := base) Z
  obtain ⟨f_has_team, fd_has_team, G_has_team, b_has_team, m_has_team⟩ := p_has_team (P := P) (w := w) (base := base) Z
  obtain ⟨f_is_watch_of, fd_is_watch_of, G_is_watch_of, b_is_watch_of, g_is_watch_of, kp_is_watch_of⟩ := p_is_watch_of (P := P) (w := w) (base := base) Z
  have T := Z.T
  obtain ⟨_, c_NOT_THERE⟩ := T.c_NOT_THERE
  obtain ⟨_, c_NOT_AS_TOLD⟩ := T.c_NOT_AS_TOLD
  obtain ⟨_, c_NEVER⟩ := T.c_NEVER
  refine ⟨f, fd, F.ok sc_answer_comes (fun vs H Q E h => ?_) (fun cdv A outer s H vs Q E hr h => ?_), b, m, kp⟩
  · obtain ⟨a, t, q, w, d, rfl, _⟩ := h
    rfl
  · obtain ⟨a, t, q, ww, dd, rfl, S, O, k⟩ := h
    have nd := sc_answer_comes.nd
    have hr_day_it_comes : Room 3 _ := hr.mono (by decide)
    have hr_has_team : Room 1 _ := hr.mono (by decide)
    have hr_is_watch_of : Room 3 _ := hr.mono (by decide)
    refine ⟨_, (pss_cons (ps_if (pt_not (pt_val (pe_meth (pv 0) T.clShip m_has_team G_has_team hr_has_team b_has_team .nil pass0 (pa_cons (pv 1) pa_nil)))) (pss_one (ps_ret (pe_lst (pa_cons (pe_gint rfl c_NOT_THERE) pa_nil)))) pss_nil) (pss_cons (ps_if (pt_not (pt_val (pe_call G_is_watch_of hr_is_watch_of (by rfl) g_is_watch_of kp_is_watch_of b_is_watch_of .nil pass0 (pa_cons (pv 0) (pa_cons (pv 3) (pa_cons (pv 2) pa_nil)))))) (pss_one (ps_ret (pe_lst (pa_cons (pe_gint rfl c_NOT_AS_TOLD) pa_nil)))) pss_nil) (pss_cons (ps_set (i := 4) nd rfl (Or.inl rfl) (pe_meth (pv 0) T.clShip m_day_it_comes G_day_it_comes hr_day_it_comes b_day_it_comes .nil pass0 (pa_cons (pv 1) (pa_cons (pv 2) (pa_cons (pv 3) pa_nil))))) (pss_one (ps_ret (pe_ifExp (pt_cmpR op_isN (pv 4) pe_non (nomark _)) (pe_lst (pa_cons (pe_gint rfl c_NEVER) pa_nil)) (pe_lst (pa_cons (pv 4) pa_nil)))))))), ?_⟩
    unfold aComes at k
    refine q_when (et_not (et_B (e_has_team (ev_var rfl) S (ev_var rfl)))) (fun hb H1 e1 => ?_) (fun hb H1 e1 => ?_)
    · have hq : t.teams ≤ q := by simpa using hb
      rw [if_pos hq] at k
      exact s_retL (el_lst (ea_cons ev_c ea_nil) (by simp)) fun p H2 hp e2 h2 => k p H2 (fresh_back e1 hp) (e1.trans e2) h2
    · have hq : ¬ t.teams ≤ q := by simpa using hb
      rw [if_neg hq] at k
      refine q_when (et_not (et_B (ev_call (dvs := []) (ea_cons (ev_var rfl) (ea_cons (ev_var rfl) (ea_cons (ev_var rfl) ea_nil))) (v_watch_of (S.mono e1))))) (fun hb2 H2 e2 => ?_) (fun hb2 H2 e2 => ?_)
      · have hc : Mu43.watches t ≤ ww ∨ Mu43.LATE < dd := by
          simp only [Bool.not_eq_true', decide_eq_false_iff_not] at hb2
          show t.long.length ≤ ww ∨ 200 < dd
          omega
        rw [if_pos hc] at k
        exact s_retL (el_lst (ea_cons ev_c ea_nil) (by simp)) fun p H3 hp e3 h3 => k p H3 (fresh_back (e1.trans e2) hp) ((e1.trans e2).trans e3) h3
      · have hc0 : ¬ (t.long.length ≤ ww ∨ 200 < dd) := by
          simp only [Bool.not_eq_false', decide_eq_true_eq] at hb2
          omega
        rw [if_neg (show ¬ (Mu43.watches t ≤ ww ∨ Mu43.LATE < dd) from hc0)] at k
        have E2 := e1.trans e2
        refine q_asg (e_day_it_comes (ev_var rfl) (S.mono E2) O (ev_var rfl) (ev_var rfl) (ev_var rfl) (by omega)) fun H3 e3 => ?_
        cases hx : Mu43.comes t q ww dd with
        | none =>
          rw [hx] at k
          exact s_retL (el_if (b := true) (et_is (et_isN (ev_var rfl)) rfl) (fun _ => el_lst (ea_cons ev_c ea_nil) (by simp)) (fun z => nomatch z)) fun p H4 hp e4 h4 => k p H4 (fresh_back (E2.trans e3) hp) ((E2.trans e3).trans e4) h4
        | some y =>
          rw [hx] at k
          exact s_retL (el_if (b := false) (et_is (et_isN (ev_var rfl)) rfl) (fun z => nomatch z) (fun _ => el_lst (ea_cons (ev_is (ev_var rfl) rfl) ea_nil) (by simp))) fun p H4 hp e4 h4 => k p H4 (fresh_back (E2.trans e3) hp) ((E2.trans e3).trans e4) h4
theorem l_comes {H : Hp} {a : Addr} {t : Mu43.Turn} {q w d : Nat} (S : ShipAt C H a t) (O : OkT t) : SpL (spAComes C) [.ref a, .int q, .int w, .int d] H (vI (aComes t q w d)) := fun H1 e1 Q k E => ⟨a, t, q, w, d, rfl, S.mono e1, O, k⟩
theorem p_answer_cuts (Z : Top K mg C CR) : FnP P w K mg base 3 "answer_cuts" ["watches", "least", "most"] spACuts := by
  obtain ⟨f, fd, F, b, m, kp⟩ := Z.f_answer_cuts
  obtain ⟨f_count_of_cuts, fd_count_of_cuts, G_count_of_cuts, b_count_of_cuts, g_count_of_cuts, kp_count_of_cuts⟩ := p_count_of_cuts (P := P) (w := w) (base := base) Z
  obtain ⟨f_first_cut, fd_first_cut, G_first_cut, b_first_cut, g_first_cut, kp_first_cut⟩ := p_first_cut (P := P) (w := w) (base := base) Z
  obtain ⟨f_may_be_watches, fd_may_be_watches, G_may_be_watches, b_may_be_watches, g_may_be_watches, kp_may_be_watches⟩ := p_may_be_watches (P := P) (w := w) (base := base) Z
  have T := Z.T
  obtain ⟨_, c_DAY_HOURS⟩ := T.c_DAY_HOURS
  obtain ⟨_, c_NOT_AS_TOLD⟩ := T.c_NOT_AS_TOLD
  refine ⟨f, fd, F.ok sc_answer_cuts (fun vs H Q E h => ?_) (fun cdv A outer s H vs Q E hr h => ?_), b, m, kp⟩
  · obtain ⟨k, lo, hi, rfl, _⟩ := h
    rfl
  · obtain ⟨kk, lo, hi, rfl, hlo, k⟩ := h
    have nd := sc_answer_cuts.nd
    have hr_count_of_cuts : Room 2 _ := hr.mono (by decide)
    have hr_first_cut : Room 1 _ := hr.mono (by decide)
    have hr_may_be_watches : Room 1 _ := hr.mono (by decide)
    refine ⟨_, (pss_cons (ps_if (PW.pt (pw_or (pt_not (pt_val (pe_call G_may_be_watches hr_may_be_watches (by rfl) g_may_be_watches kp_may_be_watches b_may_be_watches .nil pass0 (pa_cons (pv 0) pa_nil)))) (pw_or (pt_cmpR op_eq (pv 1) pe_int (nomark _)) (pw_or1 (pt_cmpR op_gt (pv 2) (pe_gint rfl c_DAY_HOURS) (nomark _)))))) (pss_one (ps_ret (pe_lst (pa_cons (pe_gint rfl c_NOT_AS_TOLD) pa_nil)))) pss_nil) (pss_cons (ps_set (i := 3) nd rfl (Or.inl rfl) (pe_call G_count_of_cuts hr_count_of_cuts (by rfl) g_count_of_cuts kp_count_of_cuts b_count_of_cuts .nil pass0 (pa_cons (pv 0) (pa_cons (pv 1) (pa_cons (pv 2) pa_nil))))) (pss_cons (ps_if (pt_cmpR op_eq (pv 3) pe_int (nomark _)) (pss_one (ps_ret (pe_lst (pa_cons pe_int pa_nil)))) pss_nil) (pss_one (ps_ret (pe_op op_cat (pe_lst (pa_cons (pv 3) pa_nil)) (pe_call G_first_cut hr_first_cut (by rfl) g_first_cut kp_first_cut b_first_cut .nil pass0 (pa_cons (pv 0) (pa_cons (pv 1) (pa_cons (pv 2) pa_nil)))))))))), ?_⟩
    unfold aCuts at k
    refine q_when (et_or (et_not (et_B (ev_call (dvs := []) (ea_cons (ev_var rfl) ea_nil) v_count))) fun _ => et_or (et_eqI (ev_var rfl) ev_c) fun _ => et_I0 (ev_var rfl) ev_c) (fun hb H1 e1 => ?_) (fun hb H1 e1 => ?_)
    · have hc : kk < 2 ∨ 8 < kk ∨ lo = 0 ∨ Mu43.HOURS < hi := by
        simp only [Bool.or_eq_true, Bool.not_eq_true', decide_eq_true_eq, decide_eq_false_iff_not] at hb
        show kk < 2 ∨ 8 < kk ∨ lo = 0 ∨ 24 < hi
        omega
      rw [if_pos hc] at k
      exact s_retL (el_lst (ea_cons ev_c ea_nil) (by simp)) fun p H2 hp e2 h2 => k p H2 (fresh_back e1 hp) (e1.trans e2) h2
    · have hc0 : ¬ (kk < 2 ∨ 8 < kk ∨ lo = 0 ∨ 24 < hi) := by
        simp only [Bool.or_eq_false_iff, Bool.not_eq_false', decide_eq_true_eq, decide_eq_false_iff_not] at hb
        omega
      rw [if_neg (show ¬ (kk < 2 ∨ 8 < kk ∨ lo = 0 ∨ Mu43.HOURS < hi) from hc0)] at k
      have hh : kk ≤ 8 ∧ lo ≤ 30 ∧ hi ≤ 24 := by omega
      have hw := ways_ne lo hi kk 24 (by omega)
      refine q_asg (ev_call (dvs := []) (ea_cons (ev_var rfl) (ea_cons (ev_var rfl) (ea_cons (ev_var rfl) ea_nil))) (v_count_cuts hh)) fun H2 e2 => ?_
      have E2 := e1.trans e2
      refine q_when (et_eqI (ev_var rfl) ev_c) (fun hb2 H3 e3 => ?_) (fun hb2 H3 e3 => ?_)
      · have h0 : Mu43.ways lo hi kk 24 = 0 := by
          have := of_decide_eq_true hb2
          omega
        rw [show Mu43.HOURS = 24 from rfl, h0, if_pos rfl] at k
        exact s_retL (el_lst (ea_cons ev_c ea_nil) (by simp)) fun p H4 hp e4 h4 => k p H4 (fresh_back (E2.trans e3) hp) ((E2.trans e3).trans e4) h4
      · have h0 : ¬ Mu43.ways lo hi kk 24 = 0 := by
          have := of_decide_eq_false hb2
          omega
        rw [show Mu43.HOURS = 24 from rfl, if_neg h0] at k
        obtain ⟨q1, q2⟩ := hw.mp h0
        have hcl : (Mu43.cut lo hi kk 24).length ≤ kk := by
          have : ∀ k n, (Mu43.cut lo hi k n).length ≤ k := by
            intro k
            induction k with
            | zero => intro n; simp [Mu43.cut]
            | succ k ih =>
              intro n
              unfold Mu43.cut
              split
              · rw [List.length_cons]
                have := ih (n - (by assumption))
                omega
              · simp
          exact this kk 24
        refine s_retL (el_is (el_cat (el_lst (ea_cons (ev_var rfl) ea_nil) (by simp)) (el_call (dvs := []) (ea_cons (ev_var rfl) (ea_cons (ev_var rfl) (ea_cons (ev_var rfl) ea_nil))) (l_first_cut hh q1 q2)) (by rw [vN_len]; simp; omega)) ?_) fun p H4 hp e4 h4 => k p H4 (fresh_back (E2.trans e3) hp) ((E2.trans e3).trans e4) h4
        rw [vN_nums]
        rfl
theorem l_cuts {H : Hp} {k lo hi : Nat} (h : lo ≤ 30) : SpL spACuts [.int k, .int lo, .int hi] H (vI (aCuts k lo hi)) := fun H1 e1 Q q E => ⟨k, lo, hi, rfl, h, q⟩
theorem p_answer_kinds (Z : Top K mg C CR) : FnP P w K mg base 4 "answer_kinds" ["teams"] spAKinds := by
  obtain ⟨f, fd, F, b, m, kp⟩ := Z.f_answer_kinds
  obtain ⟨f_fair_kinds, fd_fair_kinds, G_fair_kinds, b_fair_kinds, g_fair_kinds, kp_fair_kinds⟩ := p_fair_kinds (P := P) (w := w) (base := base) Z
  obtain ⟨f_may_be_teams, fd_may_be_teams, G_may_be_teams, b_may_be_teams, g_may_be_teams, kp_may_be_teams⟩ := p_may_be_teams (P := P) (w := w) (base := base) Z
  have T := Z.T
  obtain ⟨_, c_NOT_AS_TOLD⟩ := T.c_NOT_AS_TOLD
  refine ⟨f, fd, F.ok sc_answer_kinds (fun vs H Q E h => ?_) (fun cdv A outer s H vs Q E hr h => ?_), b, m, kp⟩
  · obtain ⟨n, rfl, _⟩ := h
    rfl
  · obtain ⟨n, rfl, k⟩ := h
    have nd := sc_answer_kinds.nd
    have hr_fair_kinds : Room 3 _ := hr.mono (by decide)
    have hr_may_be_teams : Room 1 _ := hr.mono (by decide)
    refine ⟨_, (pss_cons (ps_if (pt_not (pt_val (pe_call G_may_be_teams hr_may_be_teams (by rfl) g_may_be_teams kp_may_be_teams b_may_be_teams .nil pass0 (pa_cons (pv 0) pa_nil)))) (pss_one (ps_ret (pe_lst (pa_cons (pe_gint rfl c_NOT_AS_TOLD) pa_nil)))) pss_nil) (pss_cons (ps_set (i := 1) nd rfl (Or.inl rfl) (pe_call G_fair_kinds hr_fair_kinds (by rfl) g_fair_kinds kp_fair_kinds b_fair_kinds .nil pass0 (pa_cons (pv 0) pa_nil))) (pss_one (ps_ret (pe_op op_cat (pe_lst (pa_cons (pe_callB call_len_seq (by rfl) T.z_len (by decide +kernel) (pa_cons (pv 1) pa_nil)) pa_nil)) (pv 1)))))), ?_⟩
    unfold aKinds at k
    refine q_when (et_not (et_B (ev_call (dvs := []) (ea_cons (ev_var rfl) ea_nil) v_teams))) (fun hb H1 e1 => ?_) (fun hb H1 e1 => ?_)
    · have hc : n < 2 ∨ 5 < n := by
        simp only [Bool.not_eq_true', decide_eq_false_iff_not] at hb
        omega
      rw [if_pos hc] at k
      exact s_retL (el_lst (ea_cons ev_c ea_nil) (by simp)) fun p H2 hp e2 h2 => k p H2 (fresh_back e1 hp) (e1.trans e2) h2
    · have hc : ¬ (n < 2 ∨ 5 < n) := by
        simp only [Bool.not_eq_false', decide_eq_true_eq] at hb
        omega
      rw [if_neg hc] at k
      have hfl := List.length_filter_le (fun (k : Nat) => Nat.gcd n k == 1) [2, 3, 4, 5, 6, 7, 8]
      simp only [List.length_cons, List.length_nil] at hfl
      refine q_asgL (el_call (dvs := []) (ea_cons (ev_var rfl) ea_nil) (l_fair_kinds (by omega) (by omega))) fun p H2 hp e2 h2 => ?_
      have E2 := e1.trans e2
      refine s_retL (el_is (el_catR (el_lst (ea_cons (ev_len (ev_var rfl) (sq_of h2)) ea_nil) (by simp)) (ev_var rfl) h2 (by rw [vN_len]; simp only [List.length_cons, List.length_nil]; omega)) ?_) fun p H3 hp e3 h3 => k p H3 (fresh_back E2 hp) (E2.trans e3) h3
      rw [vN_len, vN_nums]
      rfl
theorem l_kinds {H : Hp} {n : Nat} : SpL spAKinds [.int n] H (vI (aKinds n)) := fun H1 e1 Q q E => ⟨n, rfl, q⟩
end
end Sw


namespace Sw
open PySem PySem.Spec PyProof.Rows L2 Evl
theorem cut_to {xs : List V} {n : Nat} (h : n ≤ xs.length) : cutV xs none (some (n : Int)) = xs.take n := by
  unfold cutV
  rw [HT.sIx_nat, HT.sIx_none, Nat.min_eq_left h, Nat.sub_zero]
  rfl
theorem cut_from {xs : List V} {n : Nat} (h : n ≤ xs.length) : cutV xs (some (n : Int)) none = xs.drop n := by
  unfold cutV
  rw [HT.sIx_nat, HT.sIx_none, Nat.min_eq_left h, List.take_of_length_le]
  rw [List.length_drop]
  omega
theorem vI_get {l : List Int} {i : Nat} {z : Int} (h : l[i]? = some z) : (vI l)[i]? = some (.int z) := by
  unfold vI
  rw [List.getElem?_map, h]
  rfl
/-! ### a roster made behind a heap H0 -/
structure RosIn (CR C : Addr) (H0 H : Hp) (r : Addr) (s : Mu43.State) : Prop where
  ex : ∃ dx a sx l x d vs, (H0 r = none ∧ H0 a = none ∧ H0 l = none ∧ H0 x = none ∧ H0 d = none) ∧ H r = some (.ins CR dx (roF a x d)) ∧ H a = some (.ins C sx (shF s.turn l)) ∧ H l = some (.lst (vN s.turn.long)) ∧ H x = some (.lst vs) ∧ Tups H vs s.swaps ∧ H d = some (.dK (tab s.swaps))
section
variable {CR C : Addr} {H0 H H' : Hp} {r : Addr} {s : Mu43.State}
theorem RosIn.at_ (h : RosIn CR C H0 H r s) : RosAt CR C H r s := by
  obtain ⟨dx, a, sx, l, x, d, vs, _, h1, h2, h3, h4, h5, h6⟩ := h.ex
  exact ⟨dx, a, x, d, vs, h1, ⟨sx, l, h2, h3⟩, h4, h5, .inl h6⟩
theorem RosIn.mono (h : RosIn CR C H0 H r s) (e : Ex H H') : RosIn CR C H0 H' r s := by
  obtain ⟨dx, a, sx, l, x, d, vs, h0, h1, h2, h3, h4, h5, h6⟩ := h.ex
  exact ⟨dx, a, sx, l, x, d, vs, h0, e _ _ h1, e _ _ h2, e _ _ h3, e _ _ h4, h5.mono fun p ys hp => e _ _ hp, e _ _ h6⟩
/-- a list that H0 knows is changed -/
theorem RosIn.upd {p : Addr} {ys : List V} {o : HO} (h : RosIn CR C H0 H r s) (hp : H0 p ≠ none) (hl : H p = some (.lst ys)) : RosIn CR C H0 (upd H p o) r s := by
  obtain ⟨dx, a, sx, l, x, d, vs, ⟨n1, n2, n3, n4, n5⟩, h1, h2, h3, h4, h5, h6⟩ := h.ex
  have ne : ∀ {c : Addr}, H0 c = none → c ≠ p := fun {c} hc q => hp (q ▸ hc)
  refine ⟨dx, a, sx, l, x, d, vs, ⟨n1, n2, n3, n4, n5⟩, by rw [upd_ne (ne n1)]; exact h1, by rw [upd_ne (ne n2)]; exact h2, by rw [upd_ne (ne n3)]; exact h3, by rw [upd_ne (ne n4)]; exact h4, h5.mono fun q zs hq => ?_, by rw [upd_ne (ne n5)]; exact h6⟩
  rw [upd_ne]
  · exact hq
  · intro z
    rw [z, hl] at hq
    cases hq
theorem RosIn.back {H1 : Hp} (h : RosIn CR C H1 H r s) (k : ∀ b, H0 b ≠ none → H1 b ≠ none) : RosIn CR C H0 H r s := by
  obtain ⟨dx, a, sx, l, x, d, vs, ⟨n1, n2, n3, n4, n5⟩, h1, h2, h3, h4, h5, h6⟩ := h.ex
  have ne : ∀ {c : Addr}, H1 c = none → H0 c = none := fun {c} hc => Decidable.byContradiction fun z => k c z hc
  exact ⟨dx, a, sx, l, x, d, vs, ⟨ne n1, ne n2, ne n3, ne n4, ne n5⟩, h1, h2, h3, h4, h5, h6⟩
end
/-- what H0 knows is in H' as in H -/
def Keep (H0 H H' : Hp) : Prop := ∀ b o, H b = some o → H0 b ≠ none → H' b = some o
theorem Keep.of {H0 H H' : Hp} (e : Ex H H') : Keep H0 H H' := fun b o h _ => e b o h
/-- a call is answered: the answer is a new list, the roster is the one that is due -/
def Post (CR C : Addr) (H0 H : Hp) (r : Addr) (res : Mu43.Abs × List Int) (Q : VK) : Prop :=
  ∀ H' q s', Keep H0 H H' → H0 q = none → H' q = some (.lst (vI res.2)) → res.1 = some s' → RosIn CR C H0 H' r s' → OkS s' → Q (.ref q) H'
theorem Post.same {CR C : Addr} {H0 H : Hp} {r : Addr} {s : Mu43.State} {ans : List Int} {Q : VK} (k : Post CR C H0 H r (some s, ans) Q) (S : RosIn CR C H0 H r s) (O : OkS s) (tr : ∀ b, H0 b ≠ none → H b ≠ none) : RetL (vI ans) H Q := fun p H2 hp e h2 =>
  k H2 p s (Keep.of e) (Decidable.byContradiction fun z => tr p z hp) h2 rfl (S.mono e) O
theorem Post.mono {CR C : Addr} {H0 H H1 : Hp} {r : Addr} {res : Mu43.Abs × List Int} {Q : VK} (k : Post CR C H0 H r res Q) (e : Ex H H1) : Post CR C H0 H1 r res Q := fun H' q s' kp nq hq hr S O =>
  k H' q s' (fun b o hb h0 => kp b o (e b o hb) h0) nq hq hr S O
/-! ### the promises -/
def spAChange (CR C : Addr) : Sp := fun vs H Q _ => ∃ (r dx a x0 d0 b : Addr) (z : Int) (t : Mu43.Turn) (ws : List V) (sw : List (Nat × Nat)), vs = [.ref r, .ref b, .int z] ∧ H r = some (.ins CR dx (roF a x0 d0)) ∧ ShipAt C H a t ∧ OkT t ∧ H b = some (.lst ws) ∧ Tups H ws sw ∧ (flat sw).Nodup ∧ sw.length ≤ 7 ∧
  (((flat sw).any fun g => Mu43.tired ⟨t, sw⟩ g) = true → RetL (vI [-7]) H Q) ∧
  (((flat sw).any fun g => Mu43.tired ⟨t, sw⟩ g) = false → ∀ H' q x d, H x = none → H d = none → H q = none → H' r = some (.ins CR dx (roF a x d)) → H' x = some (.lst ws) → H' d = some (.dK (tab sw)) → H' q = some (.lst (vI [z])) → (∀ c o, H c = some o → c ≠ r → H' c = some o) → Q (.ref q) H')
def spASwap (K : PySem.W.Frag) (CR C : Addr) : Sp := fun vs H Q _ => ∃ (H0 : Hp) (r b : Addr) (s : Mu43.State) (d w e v : Nat), vs = [.ref r, .ref b] ∧ SqL K H b (vI [(d : Int), (w : Int), (e : Int), (v : Int)]) ∧ RosIn CR C H0 H r s ∧ OkS s ∧ (∀ b, H0 b ≠ none → H b ≠ none) ∧ Post CR C H0 H r (Mu43.step (some s) (.swap d w e v)) Q
def spAUndo (CR C : Addr) : Sp := fun vs H Q _ => ∃ (H0 : Hp) (r : Addr) (s : Mu43.State) (i : Nat), vs = [.ref r, .int i] ∧ RosIn CR C H0 H r s ∧ OkS s ∧ (∀ b, H0 b ≠ none → H b ≠ none) ∧ Post CR C H0 H r (Mu43.step (some s) (.undo i)) Q
def aSwaps (s : Mu43.State) : List Int := Mu43.nums (s.swaps.length :: s.swaps.flatMap fun (x : Nat × Nat) => [x.1 / Mu43.watches s.turn, x.1 % Mu43.watches s.turn, x.2 / Mu43.watches s.turn, x.2 % Mu43.watches s.turn])
def spASwaps (CR C : Addr) : Sp := fun vs H Q _ => ∃ (r : Addr) (s : Mu43.State), vs = [.ref r] ∧ RosAt CR C H r s ∧ OkT s.turn ∧ s.swaps.length ≤ 6 ∧ RetL (vI (aSwaps s)) H Q
/-! ### the new state -/
theorem any_of_tired {s : Mu43.State} {a b : Nat} (O : OkT s.turn) (h : (Mu43.tired s a = true ∨ Mu43.tired s b = true) ↔ Twice s) : ((flat s.swaps).any fun g => Mu43.tired s g) = true ↔ (Mu43.tired s a = true ∨ Mu43.tired s b = true) := (any_tired O).trans h.symm
theorem apart_of {s : Mu43.State} (O : OkT s.turn) (h : ((flat s.swaps).any fun g => Mu43.tired s g) = false) : ∀ g, Mu43.who s g ≠ Mu43.who s (g + 1) := fun g e => by
  rw [(any_tired O).mpr ⟨g, e⟩] at h
  cases h
/-- take, seen from H0 -/
theorem RosIn.taken {CR C : Addr} {H0 H H' : Hp} {r dx a sx l x d x0 d0 : Addr} {t : Mu43.Turn} {ws : List V} {sw : List (Nat × Nat)} (h0 : H0 r = none ∧ H0 a = none ∧ H0 l = none) (hr : H r = some (.ins CR dx (roF a x0 d0))) (ha : H a = some (.ins C sx (shF t l))) (hl : H l = some (.lst (vN t.long))) (nar : a ≠ r) (ht : Tups H ws sw)
    (tr : ∀ b, H0 b ≠ none → H b ≠ none) (nx : H x = none) (nd : H d = none) (h1 : H' r = some (.ins CR dx (roF a x d))) (h2 : H' x = some (.lst ws)) (h3 : H' d = some (.dK (tab sw))) (kp : ∀ c o, H c = some o → c ≠ r → H' c = some o) : RosIn CR C H0 H' r ⟨t, sw⟩ := by
  have ne : ∀ {c : Addr}, H c = none → H0 c = none := fun {c} hc => Decidable.byContradiction fun z => tr c z hc
  refine ⟨dx, a, sx, l, x, d, ws, ⟨h0.1, h0.2.1, h0.2.2, ne nx, ne nd⟩, h1, kp _ _ ha nar, kp _ _ hl ?_, h2, ht.mono fun p ys hp => kp _ _ hp ?_, h3⟩
  · intro z
    rw [z, hr] at hl
    cases hl
  · intro z
    rw [z, hr] at hp
    cases hp
theorem nar_of {CR C : Addr} {H : Hp} {r a dx sx x d l : Addr} {t : Mu43.Turn} (h1 : H r = some (.ins CR dx (roF a x d))) (h2 : H a = some (.ins C sx (shF t l))) : a ≠ r := fun z => by
  rw [z, h1] at h2
  have e := Option.some.inj h2
  injection e with _ _ e
  unfold roF shF at e
  injection e with e1 _
  injection e1 with _ e2
  cases e2
theorem keep_of {H0 H H' : Hp} {r : Addr} (h0 : H0 r = none) (kp : ∀ c o, H c = some o → c ≠ r → H' c = some o) : Keep H0 H H' := fun b o hb hn => kp b o hb fun z => hn (z ▸ h0)
theorem step_swap (s : Mu43.State) (d w e v : Nat) : Mu43.step (some s) (.swap d w e v) = if 200 < d ∨ 200 < e ∨ s.turn.long.length ≤ w ∨ s.turn.long.length ≤ v then (some s, [-1]) else
    if 6 ≤ s.swaps.length then (some s, [-5]) else if Mu43.exchanged s (Mu43.number s.turn d w) = true ∨ Mu43.exchanged s (Mu43.number s.turn e v) = true then (some s, [-4]) else if Mu43.who s (Mu43.number s.turn d w) = Mu43.who s (Mu43.number s.turn e v) then (some s, [-3]) else
    if Mu43.tired ⟨s.turn, s.swaps ++ [(Mu43.number s.turn d w, Mu43.number s.turn e v)]⟩ (Mu43.number s.turn d w) = true ∨ Mu43.tired ⟨s.turn, s.swaps ++ [(Mu43.number s.turn d w, Mu43.number s.turn e v)]⟩ (Mu43.number s.turn e v) = true then (some s, [-7]) else (some ⟨s.turn, s.swaps ++ [(Mu43.number s.turn d w, Mu43.number s.turn e v)]⟩, [(s.swaps.length : Int)]) := rfl
theorem step_undo (s : Mu43.State) (i : Nat) : Mu43.step (some s) (.undo i) = if s.swaps.length ≤ i then (some s, [-2]) else
    if Mu43.tired ⟨s.turn, s.swaps.eraseIdx i⟩ (s.swaps.getD i (0, 0)).1 = true ∨ Mu43.tired ⟨s.turn, s.swaps.eraseIdx i⟩ (s.swaps.getD i (0, 0)).2 = true then (some s, [-7]) else (some ⟨s.turn, s.swaps.eraseIdx i⟩, [((s.swaps.length - 1 : Nat) : Int)]) := rfl
section
variable {P : Program} {w : World} {K : PySem.W.Frag} {mg : Str → Option Value} {base : Heap} {C CR : Addr}
theorem p_answer_change (Z : Top K mg C CR) : FnP P w K mg base 5 "answer_change" ["roster", "exchanges", "answer"] (spAChange CR C) := by
  obtain ⟨f, fd, F, b, m, kp⟩ := Z.f_answer_change
  obtain ⟨f_somebody_stands_twice, fd_somebody_stands_twice, G_somebody_stands_twice, b_somebody_stands_twice, m_somebody_stands_twice⟩ := p_somebody_stands_twice (P := P) (w := w) (base := base) Z
  obtain ⟨f_take, fd_take, G_take, b_take, m_take⟩ := p_take (P := P) (w := w) (base := base) Z
  obtain ⟨f_Roster, fd_Roster, G_Roster, b_Roster, M_Roster⟩ := p_Roster (P := P) (w := w) (base := base) Z
  have T := Z.T
  obtain ⟨_, c_TWO_RUNNING⟩ := T.c_TWO_RUNNING
  refine ⟨f, fd, F.ok sc_answer_change (fun vs H Q E h => ?_) (fun cdv A outer s H vs Q E hr h => ?_), b, m, kp⟩
  · obtain ⟨r, dx, a, x0, d0, b, z, t, ws, sw, rfl, _⟩ := h
    rfl
  · obtain ⟨r, dx, a, x0, d0, b, z, t, ws, sw, rfl, hr', hS, O, hb, ht, hn, hf, k1, k2⟩ := h
    have nd := sc_answer_change.nd
    have hr_somebody_stands_twice : Room 4 _ := hr.mono (by decide)
    have hr_take : Room 2 _ := hr.mono (by decide)
    have hr_Roster : Room 3 _ := hr.mono (by decide)
    refine ⟨_, (pss_cons (ps_if (pt_val (pe_meth0 (pe_make M_Roster G_Roster hr_Roster (by rfl) T.gRoster b_Roster .nil pass0 (pa_cons (pe_fld (pv 0) rfl) (pa_cons (pv 1) pa_nil))) T.clRoster m_somebody_stands_twice G_somebody_stands_twice hr_somebody_stands_twice b_somebody_stands_twice .nil pass0)) (pss_one (ps_ret (pe_lst (pa_cons (pe_gint rfl c_TWO_RUNNING) pa_nil)))) pss_nil) (pss_cons (ps_expr (pe_meth (pv 0) T.clRoster m_take G_take hr_take b_take .nil pass0 (pa_cons (pv 1) pa_nil))) (pss_one (ps_ret (pe_lst (pa_cons (pv 2) pa_nil)))))), ?_⟩
    refine q_when (et_B (b := (flat sw).any fun g => Mu43.tired ⟨t, sw⟩ g) (fun H1 e1 Q1 q1 => ?_)) (fun hv H1 e1 => ?_) (fun hv H1 e1 => ?_)
    · have hA : EvA (tCons (tFld K (tVar 0) "ship") (tCons (tVar 1) tNil)) [some (.ref r), some (.ref b), some (.int z)] H [.ref a, .ref b] := ea_cons (ev_fld (ev_var rfl) hr' T.clRoster T.nRoster_ship (roShip a x0 d0)) (ea_cons (ev_var rfl) ea_nil)
      unfold tMeth tMake
      refine hA H1 e1 _ fun H2 e2 => ?_
      intro x dx2 nx ndx nex
      have E2 := e1.trans e2
      have ne2 : ∀ {c : Addr} {o : HO}, H2 c = some o → upd (upd H2 dx2 (.own x)) x (.ins CR dx2 []) c = some o := fun {c o} hc => by
        rw [upd_ne (ne_of_none hc nx), upd_ne (ne_of_none hc ndx)]
        exact hc
      refine ⟨x, dx2, a, b, ws, sw, rfl, upd_same, ne2 (E2 _ _ hb), ht.mono (fun p ys hp => ne2 (E2 _ _ hp)), hn, hf, fun H5 x5 d5 nx5 nd5 hx5 hl5 hd5 kp5 => ⟨rfl, ?_⟩⟩
      have eE : Ex H2 H5 := fun c o hc => kp5 c o (ne2 hc) (ne_of_none hc nx)
      refine ⟨x, dx2, _, rfl, hx5, roNo a x5 d5 (by decide +kernel), ?_⟩
      exact ⟨x, ⟨t, sw⟩, rfl, ⟨dx2, a, x5, d5, ws, hx5, (hS.mono E2).mono eE, hl5, ht.mono (fun p ys hp => eE _ _ (E2 _ _ hp)), hd5⟩, O, hf, fun H6 e6 => q1 H6 ((e2.trans eE).trans e6)⟩
    · exact s_retL (el_lst (ea_cons ev_c ea_nil) (by simp)) fun p H2 hp e2 h2 => k1 hv p H2 (fresh_back e1 hp) (e1.trans e2) h2
    · refine ⟨_, rfl, r, dx, _, rfl, e1 _ _ hr', roNo a x0 d0 (by decide +kernel), ?_⟩
      refine ⟨_, rfl, ?_⟩
      have E3 := e1
      refine ⟨r, dx, a, x0, d0, b, ws, sw, rfl, E3 _ _ hr', E3 _ _ hb, ht.mono (fun p ys hp => E3 _ _ hp), hn, hf, fun H5 x5 d5 nx5 nd5 hx5 hl5 hd5 kp5 => ?_⟩
      refine s_retL (el_lst (ea_cons (ev_var rfl) ea_nil) (by simp)) fun q H6 hq e6 h6 => ?_
      have nqr : q ≠ r := fun c => by
        rw [c, hx5] at hq
        cases hq
      have nq : H q = none := by
        cases hc : H q with
        | none => rfl
        | some o =>
          rw [kp5 _ _ (E3 _ _ hc) nqr] at hq
          cases hq
      exact k2 hv H6 q x5 d5 (fresh_back E3 nx5) (fresh_back E3 nd5) nq (e6 _ _ hx5) (e6 _ _ hl5) (e6 _ _ hd5) h6 fun c o hc nc => e6 _ _ (kp5 c o (E3 _ _ hc) nc)
theorem p_answer_swap (Z : Top K mg C CR) : FnP P w K mg base 6 "answer_swap" ["roster", "numbers"] (spASwap K CR C) := by
  obtain ⟨f, fd, F, b, m, kp⟩ := Z.f_answer_swap
  obtain ⟨f_is_full, fd_is_full, G_is_full, b_is_full, m_is_full⟩ := p_is_full (P := P) (w := w) (base := base) Z
  obtain ⟨f_place_of, fd_place_of, G_place_of, b_place_of, m_place_of⟩ := p_place_of (P := P) (w := w) (base := base) Z
  obtain ⟨f_answer_change, fd_answer_change, G_answer_change, b_answer_change, g_answer_change, kp_answer_change⟩ := p_answer_change (P := P) (w := w) (base := base) Z
  obtain ⟨f_is_exchanged, fd_is_exchanged, G_is_exchanged, b_is_exchanged, m_is_exchanged⟩ := p_is_exchanged (P := P) (w := w) (base := base) Z
  obtain ⟨f_team_at, fd_team_at, G_team_at, b_team_at, m_team_at⟩ := p_team_at (P := P) (w := w) (base := base) Z
  obtain ⟨f_is_watch_of, fd_is_watch_of, G_is_watch_of, b_is_watch_of, g_is_watch_of, kp_is_watch_of⟩ := p_is_watch_of (P := P) (w := w) (base := base) Z
  have T := Z.T
  obtain ⟨_, c_NOT_AS_TOLD⟩ := T.c_NOT_AS_TOLD
  obtain ⟨_, c_ALL_EXCHANGES_STAND⟩ := T.c_ALL_EXCHANGES_STAND
  obtain ⟨_, c_EXCHANGED_ALREADY⟩ := T.c_EXCHANGED_ALREADY
  obtain ⟨_, c_SAME_TEAM⟩ := T.c_SAME_TEAM
  refine ⟨f, fd, F.ok sc_answer_swap (fun vs H Q E h => ?_) (fun cdv A outer s H vs Q E hr h => ?_), b, m, kp⟩
  · obtain ⟨H0, r, b, s, d, w, e, v, rfl, _⟩ := h
    rfl
  · obtain ⟨H0, r, b, s', dd, ww, ee, vv, rfl, hs, S, O, tr, k⟩ := h
    have nd := sc_answer_swap.nd
    have hr_is_full : Room 1 _ := hr.mono (by decide)
    have hr_place_of : Room 2 _ := hr.mono (by decide)
    have hr_answer_change : Room 5 _ := hr.mono (by decide)
    have hr_is_exchanged : Room 1 _ := hr.mono (by decide)
    have hr_team_at : Room 2 _ := hr.mono (by decide)
    have hr_is_watch_of : Room 3 _ := hr.mono (by decide)
    refine ⟨_, (pss_cons (ps_set (i := 2) nd rfl (Or.inl rfl) (pe_fld (pv 0) rfl)) (pss_cons (ps_if (PW.pt (pw_or (pt_not (pt_val (pe_call G_is_watch_of hr_is_watch_of (by rfl) g_is_watch_of kp_is_watch_of b_is_watch_of .nil pass0 (pa_cons (pv 2) (pa_cons (pe_ix ix_list (pv 1) pe_int (fun _ _ => rfl)) (pa_cons (pe_ix ix_list (pv 1) pe_int (fun _ _ => rfl)) pa_nil)))))) (pw_or1 (pt_not (pt_val (pe_call G_is_watch_of hr_is_watch_of (by rfl) g_is_watch_of kp_is_watch_of b_is_watch_of .nil pass0 (pa_cons (pv 2) (pa_cons (pe_ix ix_list (pv 1) pe_int (fun _ _ => rfl)) (pa_cons (pe_ix ix_list (pv 1) pe_int (fun _ _ => rfl)) pa_nil))))))))) (pss_one (ps_ret (pe_lst (pa_cons (pe_gint rfl c_NOT_AS_TOLD) pa_nil)))) pss_nil) (pss_cons (ps_if (pt_val (pe_meth0 (pv 0) T.clRoster m_is_full G_is_full hr_is_full b_is_full .nil pass0)) (pss_one (ps_ret (pe_lst (pa_cons (pe_gint rfl c_ALL_EXCHANGES_STAND) pa_nil)))) pss_nil) (pss_cons (ps_set (i := 3) nd rfl (Or.inl rfl) (pe_meth (pv 2) T.clShip m_place_of G_place_of hr_place_of b_place_of .nil pass0 (pa_cons (pe_ix ix_list (pv 1) pe_int (fun _ _ => rfl)) (pa_cons (pe_ix ix_list (pv 1) pe_int (fun _ _ => rfl)) pa_nil)))) (pss_cons (ps_set (i := 4) nd rfl (Or.inl rfl) (pe_meth (pv 2) T.clShip m_place_of G_place_of hr_place_of b_place_of .nil pass0 (pa_cons (pe_ix ix_list (pv 1) pe_int (fun _ _ => rfl)) (pa_cons (pe_ix ix_list (pv 1) pe_int (fun _ _ => rfl)) pa_nil)))) (pss_cons (ps_if (PW.pt (pw_or (pt_val (pe_meth (pv 0) T.clRoster m_is_exchanged G_is_exchanged hr_is_exchanged b_is_exchanged .nil pass0 (pa_cons (pv 3) pa_nil))) (pw_or1 (pt_val (pe_meth (pv 0) T.clRoster m_is_exchanged G_is_exchanged hr_is_exchanged b_is_exchanged .nil pass0 (pa_cons (pv 4) pa_nil)))))) (pss_one (ps_ret (pe_lst (pa_cons (pe_gint rfl c_EXCHANGED_ALREADY) pa_nil)))) pss_nil) (pss_cons (ps_if (pt_cmpR op_eq (pe_meth (pv 0) T.clRoster m_team_at G_team_at hr_team_at b_team_at .nil pass0 (pa_cons (pv 3) pa_nil)) (pe_meth (pv 0) T.clRoster m_team_at G_team_at hr_team_at b_team_at .nil pass0 (pa_cons (pv 4) pa_nil)) (nomark _)) (pss_one (ps_ret (pe_lst (pa_cons (pe_gint rfl c_SAME_TEAM) pa_nil)))) pss_nil) (pss_cons (ps_set (i := 5) nd rfl (Or.inl rfl) (pe_callB call_len_seq (by rfl) T.z_len (by decide +kernel) (pa_cons (pe_fld (pv 0) rfl) pa_nil))) (pss_cons (ps_set (i := 6) nd rfl (Or.inl rfl) (pe_op op_cat (pe_fld (pv 0) rfl) (pe_lst (pa_cons (pe_tup (pa_cons (pv 3) (pa_cons (pv 4) pa_nil))) pa_nil)))) (pss_one (ps_ret (pe_call G_answer_change hr_answer_change (by rfl) g_answer_change kp_answer_change b_answer_change .nil pass0 (pa_cons (pv 0) (pa_cons (pv 6) (pa_cons (pv 5) pa_nil))))))))))))))), ?_⟩
    obtain ⟨dx, a, sx, l, x, d, vs, ⟨n1, n2, n3, n4, n5⟩, h1, h2, h3, h4, h5, h6⟩ := S.ex
    have hSA : ShipAt C H a s'.turn := ⟨sx, l, h2, h3⟩
    have g0 := rv_ixL (i := 0) hs (atI_int (j := 0) rfl (vI_get (z := (dd : Int)) rfl))
    have g1 := rv_ixL (i := 1) hs (atI_int (j := 1) rfl (vI_get (z := (ww : Int)) rfl))
    have g2 := rv_ixL (i := 2) hs (atI_int (j := 2) rfl (vI_get (z := (ee : Int)) rfl))
    have g3 := rv_ixL (i := 3) hs (atI_int (j := 3) rfl (vI_get (z := (vv : Int)) rfl))
    rw [step_swap] at k
    have back : ∀ {H1 : Hp} {z : Int} {A B : Prop}, Ex H H1 → RetL (vI [z]) H Q → RetL (vI [z]) H1 Q := fun e1 kk p H2 hp e2 h2 => kk p H2 (fresh_back e1 hp) (e1.trans e2) h2
    refine q_asg (ev_fld (ev_var rfl) h1 T.clRoster T.nRoster_ship (roShip a x d)) fun H1 e1 => ?_
    refine q_when (et_or (et_not (et_B (ev_call (dvs := []) (ea_cons (ev_var rfl) (ea_cons (ev_op (ev_var rfl) ev_c fun _ e => g0 _ (e1.trans e)) (ea_cons (ev_op (ev_var rfl) ev_c fun _ e => g1 _ (e1.trans e)) ea_nil))) (v_watch_of (hSA.mono e1))))) fun _ => et_not (et_B (ev_call (dvs := []) (ea_cons (ev_var rfl) (ea_cons (ev_op (ev_var rfl) ev_c fun _ e => g2 _ (e1.trans e)) (ea_cons (ev_op (ev_var rfl) ev_c fun _ e => g3 _ (e1.trans e)) ea_nil))) (v_watch_of (hSA.mono e1))))) (fun hb H2 e2 => ?_) (fun hb H2 e2 => ?_)
    · have hc : 200 < dd ∨ 200 < ee ∨ s'.turn.long.length ≤ ww ∨ s'.turn.long.length ≤ vv := by
        simp only [Bool.or_eq_true, Bool.not_eq_true', decide_eq_false_iff_not] at hb
        omega
      rw [if_pos hc] at k
      exact s_retL (el_lst (ea_cons ev_c ea_nil) (by simp)) fun p H3 hp e3 h3 => (k.same S O tr) p H3 (fresh_back (e1.trans e2) hp) ((e1.trans e2).trans e3) h3
    have hc : ¬ (200 < dd ∨ 200 < ee ∨ s'.turn.long.length ≤ ww ∨ s'.turn.long.length ≤ vv) := by
      simp only [Bool.or_eq_false_iff, Bool.not_eq_false', decide_eq_true_eq] at hb
      omega
    rw [if_neg hc] at k
    have E2 := e1.trans e2
    have few := O.few
    refine q_when (et_B (e_is_full (ev_var rfl) (S.at_.mono E2))) (fun hb H3 e3 => ?_) (fun hb H3 e3 => ?_)
    · have hq : 6 ≤ s'.swaps.length := by
        have := of_decide_eq_true hb
        omega
      rw [if_pos hq] at k
      exact s_retL (el_lst (ea_cons ev_c ea_nil) (by simp)) fun p H4 hp e4 h4 => (k.same S O tr) p H4 (fresh_back (E2.trans e3) hp) ((E2.trans e3).trans e4) h4
    have hq : ¬ 6 ≤ s'.swaps.length := by
      have := of_decide_eq_false hb
      omega
    rw [if_neg hq] at k
    have E3 := E2.trans e3
    refine q_asg (e_place_of (d := dd) (w := ww) (ev_var rfl) (hSA.mono E3) O.t (ev_op (ev_var rfl) ev_c fun _ e => g0 _ (E3.trans e)) (ev_op (ev_var rfl) ev_c fun _ e => g1 _ (E3.trans e))) fun H4 e4 => ?_
    have E4 := E3.trans e4
    refine q_asg (e_place_of (d := ee) (w := vv) (ev_var rfl) (hSA.mono E4) O.t (ev_op (ev_var rfl) ev_c fun _ e => g2 _ (E4.trans e)) (ev_op (ev_var rfl) ev_c fun _ e => g3 _ (E4.trans e))) fun H5 e5 => ?_
    have E5 := E4.trans e5
    generalize hg : Mu43.number s'.turn dd ww = g at k ⊢
    generalize hh : Mu43.number s'.turn ee vv = h at k ⊢
    refine q_when (et_or (et_B (e_is_exchanged (g := g) (ev_var rfl) (S.at_.mono E5) (ev_var rfl))) fun _ => et_B (e_is_exchanged (g := h) (ev_var rfl) (S.at_.mono E5) (ev_var rfl))) (fun hb2 H6 e6 => ?_) (fun hb2 H6 e6 => ?_)
    · rw [if_pos (by simpa using hb2)] at k
      exact s_retL (el_lst (ea_cons ev_c ea_nil) (by simp)) fun p H7 hp e7 h7 => (k.same S O tr) p H7 (fresh_back (E5.trans e6) hp) ((E5.trans e6).trans e7) h7
    rw [Bool.or_eq_false_iff] at hb2
    obtain ⟨hx1, hx2⟩ := hb2
    rw [if_neg (by rw [hx1, hx2]; simp)] at k
    have E6 := E5.trans e6
    refine q_when (et_eqI (e_team_at (g := g) (ev_var rfl) (S.at_.mono E6) O.t (ev_var rfl)) (e_team_at (g := h) (ev_var rfl) (S.at_.mono E6) O.t (ev_var rfl))) (fun hb3 H7 e7 => ?_) (fun hb3 H7 e7 => ?_)
    · rw [if_pos (by have := of_decide_eq_true hb3; omega)] at k
      exact s_retL (el_lst (ea_cons ev_c ea_nil) (by simp)) fun p H8 hp e8 h8 => (k.same S O tr) p H8 (fresh_back (E6.trans e7) hp) ((E6.trans e7).trans e8) h8
    have hw : ¬ Mu43.who s' g = Mu43.who s' h := by
      have := of_decide_eq_false hb3
      omega
    rw [if_neg hw] at k
    have E7 := E6.trans e7
    refine q_asg (ev_is (ev_len (ev_fld (ev_var rfl) (E7 _ _ h1) T.clRoster T.nRoster_exchanges (roEx a x d)) (sq_of (E7 _ _ h4))) (by rw [h5.len])) fun H8 e8 => ?_
    have E8 := E7.trans e8
    have hlen := h5.len
    refine q_asgSnoc (ev_fld (ev_var rfl) (E8 _ _ h1) T.clRoster T.nRoster_exchanges (roEx a x d)) (E8 _ _ h4) (eu_tup (ea_cons (ev_var rfl) (ea_cons (ev_var rfl) ea_nil)) (by simp)) (by omega) fun p q H9 hp hq' e9 hq9 hp9 => ?_
    have E9 := E8.trans e9
    refine s_retC (dvs := []) (ea_cons (ev_var rfl) (ea_cons (ev_var rfl) (ea_cons (ev_var rfl) ea_nil))) fun H10 e10 => ?_
    have E10 := E9.trans e10
    have ht10 : Tups H10 (vs ++ [.ref q]) (s'.swaps ++ [(g, h)]) := ((h5.mono fun p ys hp => E10 _ _ hp)).app (.cons (e10 _ _ hq9) .nil)
    have htw := any_of_tired (s := ⟨s'.turn, s'.swaps ++ [(g, h)]⟩) O.t (twice_snoc (g := g) (h := h) O)
    have hnd := Sw.nd_snoc O hx1 hx2 hw
    refine ⟨r, dx, a, x, d, p, (s'.swaps.length : Int), s'.turn, vs ++ [.ref q], s'.swaps ++ [(g, h)], rfl, E10 _ _ h1, hSA.mono E10, O.t, e10 _ _ hp9, ht10, hnd, by rw [List.length_append, List.length_singleton]; omega, fun hv => ?_, fun hv => ?_⟩
    · rw [if_pos (htw.mp hv)] at k
      exact fun p H11 hp e11 h11 => (k.same S O tr) p H11 (fresh_back E10 hp) (E10.trans e11) h11
    · have hnt := fun z => (Bool.eq_false_iff.mp hv) (htw.mpr z)
      rw [if_neg hnt] at k
      have k10 := k.mono E10
      have tr10 : ∀ b, H0 b ≠ none → H10 b ≠ none := fun b hb z => tr b hb (fresh_back E10 z)
      intro H' q' x' d' nx nd' nq f1 f2 f3 f4 kp
      refine k10 H' q' _ (keep_of n1 kp) (Decidable.byContradiction fun z => tr10 q' z nq) f4 rfl (RosIn.taken ⟨n1, n2, n3⟩ (E10 _ _ h1) (E10 _ _ h2) (E10 _ _ h3) ?_ ht10 tr10 nx nd' f1 f2 f3 kp) ⟨O.t, by show (s'.swaps ++ [(g, h)]).length ≤ 6; rw [List.length_append, List.length_singleton]; omega, hnd, apart_of (s := ⟨s'.turn, s'.swaps ++ [(g, h)]⟩) O.t hv⟩
      exact nar_of h1 h2
theorem p_answer_undo (Z : Top K mg C CR) : FnP P w K mg base 6 "answer_undo" ["roster", "number"] (spAUndo CR C) := by
  obtain ⟨f, fd, F, b, m, kp⟩ := Z.f_answer_undo
  obtain ⟨f_answer_change, fd_answer_change, G_answer_change, b_answer_change, g_answer_change, kp_answer_change⟩ := p_answer_change (P := P) (w := w) (base := base) Z
  have T := Z.T
  obtain ⟨_, c_NOT_THERE⟩ := T.c_NOT_THERE
  refine ⟨f, fd, F.ok sc_answer_undo (fun vs H Q E h => ?_) (fun cdv A outer s H vs Q E hr h => ?_), b, m, kp⟩
  · obtain ⟨H0, r, s, i, rfl, _⟩ := h
    rfl
  · obtain ⟨H0, r, s', i, rfl, S, O, tr, k⟩ := h
    have nd := sc_answer_undo.nd
    have hr_answer_change : Room 5 _ := hr.mono (by decide)
    refine ⟨_, (pss_cons (ps_if (pt_cmpR op_ge (pv 1) (pe_callB call_len_seq (by rfl) T.z_len (by decide +kernel) (pa_cons (pe_fld (pv 0) rfl) pa_nil)) (nomark _)) (pss_one (ps_ret (pe_lst (pa_cons (pe_gint rfl c_NOT_THERE) pa_nil)))) pss_nil) (pss_cons (ps_set (i := 2) nd rfl (Or.inl rfl) (pe_op op_cat (pe_slice sl_list (pe_fld (pv 0) rfl) po_none (po_some (pv 1))) (pe_slice sl_list (pe_fld (pv 0) rfl) (po_some (pe_op op_add (pv 1) pe_int)) po_none))) (pss_one (ps_ret (pe_call G_answer_change hr_answer_change (by rfl) g_answer_change kp_answer_change b_answer_change .nil pass0 (pa_cons (pv 0) (pa_cons (pv 2) (pa_cons (pe_callB call_len_seq (by rfl) T.z_len (by decide +kernel) (pa_cons (pv 2) pa_nil)) pa_nil)))))))), ?_⟩
    obtain ⟨dx, a, sx, l, x, d, vs, ⟨n1, n2, n3, n4, n5⟩, h1, h2, h3, h4, h5, h6⟩ := S.ex
    have hSA : ShipAt C H a s'.turn := ⟨sx, l, h2, h3⟩
    have hlen := h5.len
    have few := O.few
    rw [step_undo] at k
    refine q_when (et_I0 (ev_var rfl) (ev_len (ev_fld (ev_var rfl) h1 T.clRoster T.nRoster_exchanges (roEx a x d)) (sq_of h4))) (fun hb H1 e1 => ?_) (fun hb H1 e1 => ?_)
    · rw [if_pos (by have := of_decide_eq_true hb; omega)] at k
      exact s_retL (el_lst (ea_cons ev_c ea_nil) (by simp)) fun p H2 hp e2 h2 => (k.same S O tr) p H2 (fresh_back e1 hp) (e1.trans e2) h2
    have hi : i < s'.swaps.length := by
      have := of_decide_eq_false hb
      omega
    rw [if_neg (by omega)] at k
    have er : s'.swaps.eraseIdx i = s'.swaps.take i ++ s'.swaps.drop (i + 1) := List.eraseIdx_eq_take_drop_succ _ _
    refine q_asgL (el_cat (el_is (el_sl (ev_fld (ev_var rfl) (e1 _ _ h1) T.clRoster T.nRoster_exchanges (roEx a x d)) eo_none (eo_some (ev_var rfl)) (sq_of (e1 _ _ h4))) (cut_to (n := i) (by omega))) (el_is (el_sl (ev_fld (ev_var rfl) (e1 _ _ h1) T.clRoster T.nRoster_exchanges (roEx a x d)) (eo_some (ev_op (ev_var rfl) ev_c rv_I0)) eo_none (sq_of (e1 _ _ h4))) (cut_from (n := i + 1) (by omega))) (by rw [List.length_take, List.length_drop]; omega)) fun p H2 hp e2 hp2 => ?_
    have E2 := e1.trans e2
    refine s_retC (dvs := []) (ea_cons (ev_var rfl) (ea_cons (ev_var rfl) (ea_cons (ev_len (ev_var rfl) (sq_of hp2)) ea_nil))) fun H10 e10 => ?_
    have E10 := E2.trans e10
    have ht10 : Tups H10 (vs.take i ++ vs.drop (i + 1)) (s'.swaps.eraseIdx i) := by
      rw [er]
      exact ((h5.mono fun p ys hp => E10 _ _ hp).take i).app ((h5.mono fun p ys hp => E10 _ _ hp).drop (i + 1))
    have htw := any_of_tired (s := ⟨s'.turn, s'.swaps.eraseIdx i⟩) O.t (twice_erase O hi)
    have hnd : (flat (s'.swaps.eraseIdx i)).Nodup := (flat_erase s'.swaps i).nodup O.nd
    have hfew : (s'.swaps.eraseIdx i).length ≤ 6 := by
      rw [List.length_eraseIdx_of_lt hi]
      omega
    have hz : ((vs.take i ++ vs.drop (i + 1)).length : Int) = ((s'.swaps.length - 1 : Nat) : Int) := by
      rw [List.length_append, List.length_take, List.length_drop]
      omega
    refine ⟨r, dx, a, x, d, p, _, s'.turn, vs.take i ++ vs.drop (i + 1), s'.swaps.eraseIdx i, rfl, E10 _ _ h1, hSA.mono E10, O.t, e10 _ _ hp2, ht10, hnd, by omega, fun hv => ?_, fun hv => ?_⟩
    · rw [if_pos (htw.mp hv)] at k
      exact fun p H11 hp e11 h11 => (k.same S O tr) p H11 (fresh_back E10 hp) (E10.trans e11) h11
    · have hnt := fun z => (Bool.eq_false_iff.mp hv) (htw.mpr z)
      rw [if_neg hnt] at k
      have k10 := k.mono E10
      have tr10 : ∀ b, H0 b ≠ none → H10 b ≠ none := fun b hb z => tr b hb (fresh_back E10 z)
      intro H' q' x' d' nx nd' nq f1 f2 f3 f4 kp
      rw [hz] at f4
      exact k10 H' q' _ (keep_of n1 kp) (Decidable.byContradiction fun z => tr10 q' z nq) f4 rfl (RosIn.taken ⟨n1, n2, n3⟩ (E10 _ _ h1) (E10 _ _ h2) (E10 _ _ h3) (nar_of h1 h2) ht10 tr10 nx nd' f1 f2 f3 kp) ⟨O.t, hfew, hnd, apart_of (s := ⟨s'.turn, s'.swaps.eraseIdx i⟩) O.t hv⟩
theorem p_answer_swaps (Z : Top K mg C CR) : FnP P w K mg base 3 "answer_swaps" ["roster"] (spASwaps CR C) := by
  obtain ⟨f, fd, F, b, m, kp⟩ := Z.f_answer_swaps
  obtain ⟨f_day_and_watch, fd_day_and_watch, G_day_and_watch, b_day_and_watch, m_day_and_watch⟩ := p_day_and_watch (P := P) (w := w) (base := base) Z
  have T := Z.T
  refine ⟨f, fd, F.ok sc_answer_swaps (fun vs H Q E h => ?_) (fun cdv A outer s H vs Q E hr h => ?_), b, m, kp⟩
  · obtain ⟨r, s, rfl, _⟩ := h
    rfl
  · obtain ⟨r, s', rfl, S, O, hf, k⟩ := h
    have nd := sc_answer_swaps.nd
    have hr_day_and_watch : Room 2 _ := hr.mono (by decide)
    refine ⟨_, (pss_cons (ps_set (i := 1) nd rfl (Or.inl rfl) (pe_lst (pa_cons (pe_callB call_len_seq (by rfl) T.z_len (by decide +kernel) (pa_cons (pe_fld (pv 0) rfl) pa_nil)) pa_nil))) (pss_cons (ps_for PassesOwn.never rfl (pi_list (pe_fld (pv 0) rfl)) (pg_name (i := 2) nd rfl (Or.inl rfl)) (pss_cons (ps_expr (pe_bm PySem.F.plainAttrs_list PySem.F.slot_list_extend PySem.F.type_list_extend mt_extend (pv 1) (pa_cons (pe_meth (pe_fld (pv 0) rfl) T.clShip m_day_and_watch G_day_and_watch hr_day_and_watch b_day_and_watch .nil pass0 (pa_cons (pe_ix ix_tup (pv 2) pe_int (fun _ _ => rfl)) pa_nil)) pa_nil))) (pss_one (ps_expr (pe_bm PySem.F.plainAttrs_list PySem.F.slot_list_extend PySem.F.type_list_extend mt_extend (pv 1) (pa_cons (pe_meth (pe_fld (pv 0) rfl) T.clShip m_day_and_watch G_day_and_watch hr_day_and_watch b_day_and_watch .nil pass0 (pa_cons (pe_ix ix_tup (pv 2) pe_int (fun _ _ => rfl)) pa_nil)) pa_nil)))))) (pss_one (ps_ret (pv 1))))), ?_⟩
    obtain ⟨dx, a, x, d, vs, h1, h2, h3, h4, h5⟩ := S.ex
    have hlen := h4.len
    have few : ∀ i, ((s'.swaps.take i).flatMap fun (x : Nat × Nat) => [x.1 / Mu43.watches s'.turn, x.1 % Mu43.watches s'.turn, x.2 / Mu43.watches s'.turn, x.2 % Mu43.watches s'.turn]).length ≤ 24 := fun i => by
      have h : ∀ l : List (Nat × Nat), (l.flatMap fun (x : Nat × Nat) => [x.1 / Mu43.watches s'.turn, x.1 % Mu43.watches s'.turn, x.2 / Mu43.watches s'.turn, x.2 % Mu43.watches s'.turn]).length = 4 * l.length := by
        intro l
        induction l with
        | nil => rfl
        | cons x l ih => rw [List.flatMap_cons, List.length_append, ih, List.length_cons]; simp only [List.length_cons, List.length_nil]; omega
      rw [h, List.length_take]
      omega
    refine q_asgL (el_is (el_lst (ea_cons (ev_len (ev_fld (ev_var rfl) h1 T.clRoster T.nRoster_exchanges (roEx a x d)) (sq_of h3)) ea_nil) (by simp)) (show _ = vN [s'.swaps.length] by rw [hlen]; rfl)) fun p H1 hp e1 hp1 => ?_
    refine q_forLn (ev_fld (ev_var rfl) (e1 _ _ h1) T.clRoster T.nRoster_exchanges (roEx a x d)) (sq_of (e1 _ _ h3)) (fun i σ' H' => ∃ v : Option V, σ' = [some (.ref r), some (.ref p), v] ∧ Ex H H' ∧ H' p = some (.lst (vN (s'.swaps.length :: (s'.swaps.take i).flatMap fun (x : Nat × Nat) => [x.1 / Mu43.watches s'.turn, x.1 % Mu43.watches s'.turn, x.2 / Mu43.watches s'.turn, x.2 % Mu43.watches s'.turn])))) (fun H2 e2 => ⟨none, rfl, e1.trans e2, e2 _ _ hp1⟩) (fun i σ' H' _ h => by
      obtain ⟨v, _, e, _⟩ := h
      exact sq_of (e _ _ h3)) ?_ ?_
    · rintro i y σ' H' hi ⟨v, rfl, e, hq⟩
      obtain ⟨q, z, rfl, hz, hq0⟩ := h4.get hi
      have hil : i < s'.swaps.length := (List.getElem?_eq_some_iff.mp hz).1
      have hfi := few i
      refine q_extL hq (ev_var rfl) (l_day_and_watch (g := z.1) (ev_fld (ev_var rfl) (e _ _ h1) T.clRoster T.nRoster_ship (roShip a x d)) (h2.mono e) O (ev_op (ev_var rfl) ev_c (rv_ixT (st_of (e _ _ hq0)) (atI_int (j := 0) rfl rfl)))) (by rw [vN_len, vN_len]; simp only [List.length_cons, List.length_nil]; omega) fun H2 e2 => ?_
      have E2 : Ex H (upd H2 p (.lst (vN (s'.swaps.length :: (s'.swaps.take i).flatMap fun (x : Nat × Nat) => [x.1 / Mu43.watches s'.turn, x.1 % Mu43.watches s'.turn, x.2 / Mu43.watches s'.turn, x.2 % Mu43.watches s'.turn]) ++ vN [z.1 / s'.turn.long.length, z.1 % s'.turn.long.length]))) := Ex.mut (e.trans e2) hp
      refine s_extL upd_same (ev_var rfl) (l_day_and_watch (g := z.2) (ev_fld (ev_var rfl) (E2 _ _ h1) T.clRoster T.nRoster_ship (roShip a x d)) (h2.mono E2) O (ev_op (ev_var rfl) ev_c (rv_ixT (st_of (E2 _ _ hq0)) (atI_int (j := 1) rfl rfl)))) (by rw [List.length_append, vN_len, vN_len, vN_len]; simp only [List.length_cons, List.length_nil]; omega) fun H3 e3 => ?_
      refine ⟨_, rfl, Ex.mut (E2.trans e3) hp, ?_⟩
      have et : s'.swaps.take (i + 1) = s'.swaps.take i ++ [z] := by
        rw [List.take_succ_eq_append_getElem hil]
        rw [List.getElem?_eq_getElem hil] at hz
        rw [Option.some.inj hz]
      rw [upd_same, et, List.flatMap_append]
      unfold vN
      simp [Mu43.watches]
    · rintro σ' H' ⟨v, rfl, e, hq⟩
      rw [hlen, List.take_length] at hq
      refine s_ret (ev_var rfl) fun H3 e3 => k p H3 hp (e.trans e3) ?_
      unfold aSwaps
      rw [← vN_nums]
      exact e3 _ _ hq
theorem l_swaps {H : Hp} {r : Addr} {s : Mu43.State} (S : RosAt CR C H r s) (O : OkT s.turn) (hf : s.swaps.length ≤ 6) : SpL (spASwaps CR C) [.ref r] H (vI (aSwaps s)) := fun H1 e Q k E => ⟨r, s, rfl, S.mono e, O, hf, k⟩
end
end Sw


namespace Sw
open PySem PySem.Spec PyProof.Rows L2 Evl
/-! ### where a call ends -/
def argTab : List Int := [3, 2, 1, 0, 0, 3, 1, 3, 3, 1, 4, 1, 0]
theorem Form.head {rest t : List Int} {c : List (List Int)} (h : Form rest c t) : ∃ (p n : Nat), p ≤ 12 ∧ rest[0]? = some (p : Int) ∧ argTab[p]? = some (n : Int) ∧
    ((p = 0 ∧ ∃ k : Nat, rest[3]? = some (k : Int) ∧ rest.length = 4 + k + t.length ∧ n = 3) ∨ (p ≠ 0 ∧ rest.length = 1 + n + t.length)) := by
  cases h with
  | begin_ n f L t => exact ⟨0, 3, by omega, rfl, rfl, .inl ⟨rfl, L.length, rfl, by simp only [List.length_cons, List.length_append]; omega, rfl⟩⟩
  | who d h t => exact ⟨1, 2, by omega, rfl, rfl, .inr ⟨by omega, by simp only [List.length_cons]; omega⟩⟩
  | day d t => exact ⟨2, 1, by omega, rfl, rfl, .inr ⟨by omega, by simp only [List.length_cons]; omega⟩⟩
  | round t => exact ⟨3, 0, by omega, rfl, rfl, .inr ⟨by omega, by simp only [List.length_cons]; omega⟩⟩
  | even t => exact ⟨4, 0, by omega, rfl, rfl, .inr ⟨by omega, by simp only [List.length_cons]; omega⟩⟩
  | hours a d e t => exact ⟨5, 3, by omega, rfl, rfl, .inr ⟨by omega, by simp only [List.length_cons]; omega⟩⟩
  | rests a t => exact ⟨6, 1, by omega, rfl, rfl, .inr ⟨by omega, by simp only [List.length_cons]; omega⟩⟩
  | comes a w d t => exact ⟨7, 3, by omega, rfl, rfl, .inr ⟨by omega, by simp only [List.length_cons]; omega⟩⟩
  | cuts k lo hi t => exact ⟨8, 3, by omega, rfl, rfl, .inr ⟨by omega, by simp only [List.length_cons]; omega⟩⟩
  | kinds n t => exact ⟨9, 1, by omega, rfl, rfl, .inr ⟨by omega, by simp only [List.length_cons]; omega⟩⟩
  | swap d w e v t => exact ⟨10, 4, by omega, rfl, rfl, .inr ⟨by omega, by simp only [List.length_cons]; omega⟩⟩
  | undo i t => exact ⟨11, 1, by omega, rfl, rfl, .inr ⟨by omega, by simp only [List.length_cons]; omega⟩⟩
  | swaps t => exact ⟨12, 0, by omega, rfl, rfl, .inr ⟨by omega, by simp only [List.length_cons]; omega⟩⟩
/-- what a call has behind its number, up to its end -/
def behind : List (List Int) → List Int
  | [p :: xs] => xs
  | [[_, n, f], L] => n :: f :: (L.length : Int) :: L
  | _ => []
theorem Form.split {rest t : List Int} {c : List (List Int)} (h : Form rest c t) : ∃ p, rest = p :: (behind c ++ t) := by
  cases h with
  | begin_ n f L t => exact ⟨0, rfl⟩
  | who d h t => exact ⟨1, rfl⟩
  | day d t => exact ⟨2, rfl⟩
  | round t => exact ⟨3, rfl⟩
  | even t => exact ⟨4, rfl⟩
  | hours a d e t => exact ⟨5, rfl⟩
  | rests a t => exact ⟨6, rfl⟩
  | comes a w d t => exact ⟨7, rfl⟩
  | cuts k lo hi t => exact ⟨8, rfl⟩
  | kinds n t => exact ⟨9, rfl⟩
  | swap d w e v t => exact ⟨10, rfl⟩
  | undo i t => exact ⟨11, rfl⟩
  | swaps t => exact ⟨12, rfl⟩
/-- a call that isn't begin is its number and what is behind it -/
theorem Form.plain {p : Int} {r t : List Int} {c : List (List Int)} (h : Form (p :: r) c t) (hp : p ≠ 0) : c = [p :: behind c] := by
  cases h <;> first | rfl | exact absurd rfl hp
theorem Form.isBegin {r t : List Int} {c : List (List Int)} (h : Form (0 :: r) c t) : ∃ n f L, c = [[0, n, f], L] := by
  cases h with
  | begin_ n f L t => exact ⟨n, f, L, rfl⟩
theorem drop_get {l : List Int} {s i : Nat} {z : Int} (h : (l.drop s)[i]? = some z) : l[s + i]? = some z := by
  rw [List.getElem?_drop] at h
  exact h
theorem cut_vI {l : List Int} {i j : Nat} (hi : i ≤ l.length) (hj : j ≤ l.length) : cutV (vI l) (some (i : Int)) (some (j : Int)) = vI ((l.drop i).take (j - i)) := by
  unfold cutV
  rw [HT.sIx_nat, HT.sIx_nat, vI_len, Nat.min_eq_left hi, Nat.min_eq_left hj]
  unfold vI
  rw [List.map_take, List.map_drop]
theorem cut_vI_to {l : List Int} {i : Nat} (hi : i ≤ l.length) : cutV (vI l) (some (i : Int)) none = vI (l.drop i) := by
  unfold cutV
  rw [HT.sIx_nat, HT.sIx_none, vI_len, Nat.min_eq_left hi]
  unfold vI
  rw [← List.map_drop, List.take_of_length_le (by rw [List.length_map, List.length_drop]; omega)]
def spEnd (K : PySem.W.Frag) : Sp := fun vs H Q _ => ∃ (a : Addr) (ns : List Int) (s : Nat) (c : List (List Int)) (t : List Int), vs = [.ref a, .int s] ∧ SqL K H a (vI ns) ∧ Form (ns.drop s) c t ∧ RetV (.int ((s + 1 + (behind c).length : Nat) : Int)) H Q
section
variable {P : Program} {w : World} {K : PySem.W.Frag} {mg : Str → Option Value} {base : Heap} {C CR : Addr}
theorem p_end_of_call (Z : Top K mg C CR) : FnP P w K mg base 1 "end_of_call" ["calls", "start"] (spEnd K) := by
  obtain ⟨f, fd, F, b, m, kp⟩ := Z.f_end_of_call
  have T := Z.T
  obtain ⟨_, c_BEGIN⟩ := T.c_BEGIN
  obtain ⟨pt_ARGUMENTS, g_ARGUMENTS, hT_ARGUMENTS⟩ := T.t_ARGUMENTS
  refine ⟨f, fd, F.ok sc_end_of_call (fun vs H Q E h => ?_) (fun cdv A outer s H vs Q E hr h => ?_), b, m, kp⟩
  · obtain ⟨a, ns, s, c, t, rfl, _⟩ := h
    rfl
  · obtain ⟨a, ns, s, c, t, rfl, hs, fm, k⟩ := h
    have nd := sc_end_of_call.nd
    refine ⟨_, (pss_cons (ps_set (i := 2) nd rfl (Or.inl rfl) (pe_op op_add (pe_op op_add (pv 1) pe_int) (pe_ix ix_tup (pe_gref rfl g_ARGUMENTS) (pe_ix ix_list (pv 0) (pv 1) (fun _ _ => rfl)) (fun _ _ => rfl)))) (pss_cons (ps_if (pt_cmpR op_eq (pe_ix ix_list (pv 0) (pv 1) (fun _ _ => rfl)) (pe_gint rfl c_BEGIN) (nomark _)) (pss_one (ps_set (i := 2) nd rfl (Or.inl rfl) (pe_op op_add (pv 2) (pe_ix ix_list (pv 0) (pe_op op_sub (pv 2) pe_int) (fun _ _ => rfl))))) pss_nil) (pss_one (ps_ret (pv 2))))), ?_⟩
    obtain ⟨p, n, hp12, hp, hn, hc⟩ := fm.head
    obtain ⟨p', hsp⟩ := fm.split
    have hlen : (ns.drop s).length = 1 + ((behind c).length + t.length) := by rw [hsp]; simp only [List.length_cons, List.length_append]; omega
    have hp0 : (vI ns)[s + 0]? = some (.int (p : Int)) := vI_get (drop_get hp)
    refine q_asg (ev_op (ev_op (ev_var rfl) ev_c rv_I0) (ev_op ev_c (ev_op (ev_var rfl) (ev_var rfl) (rv_ixL hs (atI_int rfl hp0))) (rv_ixT (hT_ARGUMENTS H) (atI_int rfl (vI_get (l := argTab) hn)))) rv_I0) fun H1 e1 => ?_
    refine q_when (et_eqI (ev_op (ev_var rfl) (ev_var rfl) (rv_ixL (ex_l e1 hs) (atI_int rfl hp0))) ev_c) (fun hb H2 e2 => ?_) (fun hb H2 e2 => ?_)
    · have hp00 : p = 0 := by
        have := of_decide_eq_true hb
        omega
      rcases hc with ⟨_, kk, h3, hl, rfl⟩ | ⟨h0, _⟩
      · refine s_asg (ev_op (ev_var rfl) (ev_op (ev_var rfl) (ev_op (ev_var rfl) ev_c rv_I0) (rv_ixL (ex_l (e1.trans e2) hs) (atI_int (j := s + 3) (by push_cast; omega) (vI_get (drop_get h3))))) rv_I0) fun H3 e3 => ?_
        refine s_ret (ev_is (ev_var rfl) ?_) fun H4 e4 => k H4 (((e1.trans e2).trans e3).trans e4)
        have : (behind c).length = 3 + kk := by omega
        rw [this]
        push_cast
        congr 1
        omega
      · exact absurd hp00 h0
    · have hp00 : p ≠ 0 := by
        have := of_decide_eq_false hb
        omega
      rcases hc with ⟨h0, _⟩ | ⟨_, hl⟩
      · exact absurd h0 hp00
      · refine s_ret (ev_is (ev_var rfl) ?_) fun H4 e4 => k H4 ((e1.trans e2).trans e4)
        have : (behind c).length = n := by omega
        rw [this]
        push_cast
        rfl
theorem v_end {H : Hp} {a : Addr} {ns : List Int} {s : Nat} {c : List (List Int)} {t : List Int} (hs : SqL K H a (vI ns)) (fm : Form (ns.drop s) c t) : SpV (spEnd K) [.ref a, .int s] H (.int ((s + 1 + (behind c).length : Nat) : Int)) := fun H1 e1 Q k E => ⟨a, ns, s, c, t, rfl, ex_l e1 hs, fm, k⟩
/-- __init__: a new ship -/
def spInit (K : PySem.W.Frag) (C : Addr) : Sp := fun vs H Q _ => ∃ (p dx b : Addr) (t : Mu43.Turn), vs = [.ref p, .int t.teams, .int t.first, .ref b] ∧ H p = some (.ins C dx []) ∧ SqL K H b (vN t.long) ∧ b ≠ p ∧
  ∀ (H' : Hp) (l : Addr), H l = none → H' p = some (.ins C dx (shF t l)) → H' l = some (.lst (vN t.long)) → (∀ c o, H c = some o → c ≠ p → H' c = some o) → Q .non H'
theorem sqL_upd {K : PySem.W.Frag} {H : Hp} {b p : Addr} {o : HO} {xs : List V} (h : SqL K H b xs) (hb : b ≠ p) : SqL K (upd H p o) b xs := by
  rcases h with (h | ⟨u, h⟩) | h
  · exact .inl (.inl (by rw [upd_ne hb]; exact h))
  · exact .inl (.inr ⟨u, by rw [upd_ne hb]; exact h⟩)
  · exact .inr h
theorem p_Ship (Z : Top K mg C CR) : MkP P w K mg base C 1 ["self", "teams", "first", "lengths"] (spInit K C) := by
  obtain ⟨f, fd, F, b, m⟩ := Z.mk_Ship
  have T := Z.T
  refine ⟨f, fd, F.ok sc_Ship_init (fun vs H Q E h => ?_) (fun cdv A outer s H vs Q E hr h => ?_), b, m⟩
  · obtain ⟨p, dx, b, t, rfl, _⟩ := h
    rfl
  · obtain ⟨p, dx, b, t, rfl, hp, hb, nb, k⟩ := h
    have nd := sc_Ship_init.nd
    refine ⟨_, (pss_cons (ps_fld (pv 0) (pv 1) rfl) (pss_cons (ps_fld (pv 0) (pv 2) rfl) (pss_one (ps_fld (pv 0) (pe_callTy call_list_of (by rfl) T.z_list (by decide +kernel) (pa_cons (pv 3) pa_nil)) rfl)))), ?_⟩
    refine ⟨_, rfl, _, rfl, p, C, dx, [], rfl, hp, T.clShip, T.nShip_teams, (by show 0 < 1000; decide), ?_⟩
    refine ⟨_, rfl, _, rfl, p, C, dx, _, rfl, upd_same, T.clShip, T.nShip_first, (by show 1 < 1000; decide), ?_⟩
    refine ⟨_, rfl, b, vN t.long, rfl, .inl (sqL_upd (sqL_upd hb nb) nb), fun l hl => ?_⟩
    have npl : p ≠ l := fun q => by
      rw [← q, upd_same] at hl
      cases hl
    refine ⟨_, rfl, p, C, dx, _, rfl, Eq.trans (upd_ne npl) upd_same, T.clShip, T.nShip_lengths, (by show 2 < 1000; decide), ?_⟩
    refine k _ l ?_ ?_ ?_ fun c o e nc => ?_
    · rw [upd_ne (fun q => npl q.symm), upd_ne (fun q => npl q.symm)] at hl
      exact hl
    · rw [upd_same]
      exact congrArg (fun q => some (HO.ins C dx q)) ((congrArg (putF "lengths" (.ref l)) ((puP (by decide +kernel)).trans rfl)).trans ((puP (by decide +kernel)).trans ((congrArg _ (puP (by decide +kernel))).trans rfl)))
    · rw [upd_ne (fun q => npl q.symm), upd_same]
    · have ncl : c ≠ l := fun q => by
        rw [← q, upd_ne nc, upd_ne nc, e] at hl
        cases hl
      rw [upd_ne nc, upd_ne ncl, upd_ne nc, upd_ne nc]
      exact e
def spRosterOf (K : PySem.W.Frag) (CR C : Addr) : Sp := fun vs H Q _ => ∃ (b : Addr) (n f : Nat) (k : Int) (l : List Nat), vs = [.ref b] ∧ SqL K H b (vI ((n : Int) :: (f : Int) :: k :: l.map fun (x : Nat) => (x : Int))) ∧
  (bad n f l → RetV .non H Q) ∧ (¬ bad n f l → ∀ H' x, Ex H H' → RosIn CR C H H' x ⟨⟨n, f, l⟩, []⟩ → Q (.ref x) H')
theorem p_roster_of (Z : Top K mg C CR) : FnP P w K mg base 4 "roster_of" ["numbers"] (spRosterOf K CR C) := by
  obtain ⟨f, fd, F, b, m, kp⟩ := Z.f_roster_of
  obtain ⟨f_Roster, fd_Roster, G_Roster, b_Roster, M_Roster⟩ := p_Roster (P := P) (w := w) (base := base) Z
  obtain ⟨f_may_be_ship, fd_may_be_ship, G_may_be_ship, b_may_be_ship, g_may_be_ship, kp_may_be_ship⟩ := p_may_be_ship (P := P) (w := w) (base := base) Z
  obtain ⟨f_Ship, fd_Ship, G_Ship, b_Ship, M_Ship⟩ := p_Ship (P := P) (w := w) (base := base) Z
  have T := Z.T
  refine ⟨f, fd, F.ok sc_roster_of (fun vs H Q E h => ?_) (fun cdv A outer s H vs Q E hr h => ?_), b, m, kp⟩
  · obtain ⟨b, n, f, k, l, rfl, _⟩ := h
    rfl
  · obtain ⟨b, n, ff, kk, l, rfl, hs, k1, k2⟩ := h
    have nd := sc_roster_of.nd
    have hr_Roster : Room 3 _ := hr.mono (by decide)
    have hr_may_be_ship : Room 2 _ := hr.mono (by decide)
    have hr_Ship : Room 2 _ := hr.mono (by decide)
    refine ⟨_, (pss_cons (ps_set (i := 1) nd rfl (Or.inl rfl) (pe_ix ix_list (pv 0) pe_int (fun _ _ => rfl))) (pss_cons (ps_set (i := 2) nd rfl (Or.inl rfl) (pe_ix ix_list (pv 0) pe_int (fun _ _ => rfl))) (pss_cons (ps_set (i := 3) nd rfl (Or.inl rfl) (pe_slice sl_list (pv 0) (po_some pe_int) po_none)) (pss_cons (ps_if (pt_not (pt_val (pe_call G_may_be_ship hr_may_be_ship (by rfl) g_may_be_ship kp_may_be_ship b_may_be_ship .nil pass0 (pa_cons (pv 1) (pa_cons (pv 2) (pa_cons (pv 3) pa_nil)))))) (pss_one (ps_ret pe_non)) pss_nil) (pss_one (ps_ret (pe_make M_Roster G_Roster hr_Roster (by rfl) T.gRoster b_Roster .nil pass0 (pa_cons (pe_make M_Ship G_Ship hr_Ship (by rfl) T.gShip b_Ship .nil pass0 (pa_cons (pv 1) (pa_cons (pv 2) (pa_cons (pv 3) pa_nil)))) (pa_cons (pe_lst pa_nil) pa_nil))))))))), ?_⟩
    refine q_asg (ev_op (ev_var rfl) ev_c (rv_ixL hs (atI_int (j := 0) rfl rfl))) fun H1 e1 => ?_
    refine q_asg (ev_op (ev_var rfl) ev_c (rv_ixL (ex_l e1 hs) (atI_int (j := 1) rfl rfl))) fun H2 e2 => ?_
    have e12 := e1.trans e2
    refine q_asgL (el_is (el_sl (ev_var rfl) (eo_some ev_c) eo_none (ex_l e12 hs)) (cut_vI_to (i := 3) (by simp))) fun q H3 hq e3 h3 => ?_
    have hl : H3 q = some (.lst (vN l)) := by
      rw [h3, vN_ints]
      rfl
    have e13 := e12.trans e3
    refine q_when (et_not (et_B (ev_call (dvs := []) (ea_cons (ev_var rfl) (ea_cons (ev_var rfl) (ea_cons (ev_var rfl) ea_nil))) (v_may (sq_of hl))))) (fun hb H4 e4 => ?_) (fun hb H4 e4 => ?_)
    · have hbad : bad n ff l := by simpa using hb
      exact s_ret ev_c fun H5 e5 => k1 hbad H5 ((e13.trans e4).trans e5)
    · have hgood : ¬ bad n ff l := by simpa using hb
      have e14 := e13.trans e4
      refine ⟨_, rfl, _, rfl, _, rfl, ?_⟩
      intro x dx nx ndx nex
      have nqx : q ≠ x := ne_of_none (e4 _ _ hl) nx
      have nqd : q ≠ dx := ne_of_none (e4 _ _ hl) ndx
      refine ⟨x, dx, q, ⟨n, ff, l⟩, rfl, upd_same, sq_of (by rw [upd_ne nqx, upd_ne nqd]; exact e4 _ _ hl), nqx, fun H5 lx nlx hx5 hl5 kp5 => ⟨rfl, ?_⟩⟩
      have eE : Ex H4 H5 := fun c o hc => by
        have ncx : c ≠ x := ne_of_none hc nx
        have ncd : c ≠ dx := ne_of_none hc ndx
        exact kp5 c o (by rw [upd_ne ncx, upd_ne ncd]; exact hc) ncx
      have nlx0 : lx ≠ x := fun z => by
        rw [z, upd_same] at nlx
        cases nlx
      have nld : lx ≠ dx := fun z => by
        rw [z, upd_ne nex, upd_same] at nlx
        cases nlx
      rw [upd_ne nlx0, upd_ne nld] at nlx
      refine ⟨sz_of (by simp), fun p hp => ?_⟩
      intro y dy ny ndy ney
      have e5 : Ex H5 (upd H5 p (.lst [])) := Ex.new hp
      have ne2 : ∀ {c : Addr} {o : HO}, upd H5 p (.lst []) c = some o → upd (upd (upd H5 p (.lst [])) dy (.own y)) y (.ins CR dy []) c = some o := fun {c o} hc => by
        rw [upd_ne (ne_of_none hc ny), upd_ne (ne_of_none hc ndy)]
        exact hc
      refine ⟨y, dy, x, p, [], [], rfl, upd_same, ne2 upd_same, .nil, List.nodup_nil, Nat.zero_le _, fun H6 x6 d6 nx6 nd6 hy6 hx6 hd6 kp6 => ⟨rfl, ?_⟩⟩
      have eF : Ex H5 H6 := fun c o hc => kp6 c o (ne2 (e5 _ _ hc)) (ne_of_none (e5 _ _ hc) ny)
      have back6 : ∀ {c : Addr}, upd (upd (upd H5 p (.lst [])) dy (.own y)) y (.ins CR dy []) c = none → H5 c = none := fun {c} hc => by
        cases h : H5 c with
        | none => rfl
        | some o =>
          rw [ne2 (e5 _ _ h)] at hc
          cases hc
      have e15 := e14.trans eE
      exact k2 hgood H6 y (e15.trans eF) ⟨dy, x, dx, lx, x6, d6, [], ⟨fresh_back (e15.trans e5) ny, fresh_back e14 nx, fresh_back e14 nlx, fresh_back e15 (back6 nx6), fresh_back e15 (back6 nd6)⟩, hy6, eF _ _ hx5, eF _ _ hl5, hx6, .nil, hd6⟩
end
/-! ### how long an answer is -/
theorem cut_len (lo hi : Nat) : ∀ k n, (Mu43.cut lo hi k n).length ≤ k
  | 0, n => by simp [Mu43.cut]
  | k + 1, n => by
    unfold Mu43.cut
    split
    · rw [List.length_cons]
      have := cut_len lo hi k (n - (by assumption))
      omega
    · simp
theorem nums_len (l : List Nat) : (Mu43.nums l).length = l.length := List.length_map _
theorem flat4 (l : List (Nat × Nat)) (f : Nat × Nat → List Nat) (h : ∀ x, (f x).length = 4) : (l.flatMap f).length = 4 * l.length := by
  induction l with
  | nil => rfl
  | cons x l ih => rw [List.flatMap_cons, List.length_append, h, ih, List.length_cons]; omega
theorem len_step {s : Mu43.State} (O : OkT s.turn) (hs : s.swaps.length ≤ 6) (x : Mu43.Call) : (Mu43.step (some s) x).2.length ≤ 39 := by
  have t5 := O.t5
  have w8 := O.w8
  cases x with
  | begin_ n f l => unfold Mu43.step; dsimp only; split <;> simp
  | who d h => unfold Mu43.step; dsimp only; split <;> simp [Mu43.nums]
  | day d =>
    unfold Mu43.step
    dsimp only
    split
    · simp
    · rw [nums_len, List.length_map, List.length_range]
      have : Mu43.watches s.turn = s.turn.long.length := rfl
      omega
  | round => simp [Mu43.step, Mu43.nums]
  | even =>
    unfold Mu43.step
    dsimp only
    rw [List.length_cons, nums_len, List.length_map, List.length_range]
    omega
  | hours a d e => unfold Mu43.step; dsimp only; split <;> (try split) <;> simp [Mu43.nums]
  | rests a => unfold Mu43.step; dsimp only; split <;> simp [Mu43.nums]
  | comes a w d => unfold Mu43.step; dsimp only; split <;> (try split) <;> (try split) <;> simp
  | cuts k lo hi =>
    unfold Mu43.step
    dsimp only
    split
    · simp
    · rw [nums_len, List.length_cons]
      split
      · simp
      · have := cut_len lo hi k Mu43.HOURS
        omega
  | kinds n =>
    unfold Mu43.step
    dsimp only
    split
    · simp
    · rw [nums_len, List.length_cons]
      have := List.length_filter_le (fun (k : Nat) => Nat.gcd n k == 1) [2, 3, 4, 5, 6, 7, 8]
      simp only [List.length_cons, List.length_nil] at this
      omega
  | swap d w e v => unfold Mu43.step; dsimp only; (repeat' split) <;> simp
  | undo i => unfold Mu43.step; dsimp only; (repeat' split) <;> simp
  | swaps =>
    unfold Mu43.step
    dsimp only
    rw [nums_len, List.length_cons, flat4 _ _ (fun _ => rfl)]
    omega
/-! ### calls by their forms -/
theorem step_none {p : Int} {r t : List Int} {c : List (List Int)} (h : Form (p :: r) c t) (hp : p ≠ 0) : Mu43Neutral.step none c = (none, [-9]) := by
  cases h <;> first | rfl | exact absurd rfl hp
theorem len_neutral {s : Mu43.State} (O : OkT s.turn) (hs : s.swaps.length ≤ 6) (c : List (List Int)) : (Mu43Neutral.step (some s) c).2.length ≤ 39 := by
  unfold Mu43Neutral.step
  split
  · exact len_step O hs _
  · simp
theorem nats_cast {L : List Int} (h : ∀ z ∈ L, 0 ≤ z) : L = (Mu43Neutral.nats L).map fun (x : Nat) => (x : Int) := by
  unfold Mu43Neutral.nats
  rw [List.map_map]
  induction L with
  | nil => rfl
  | cons z L ih =>
    rw [List.map_cons]
    have hz := h z List.mem_cons_self
    have e : ((fun (x : Nat) => (x : Int)) ∘ Int.toNat) z = z := Int.toNat_of_nonneg hz
    rw [e, ← ih fun y hy => h y (List.mem_cons_of_mem _ hy)]
theorem begin_asked {n f : Int} {L : List Int} (h : Mu43Neutral.asked1 [[0, n, f], L] = true) : 0 ≤ n ∧ 0 ≤ f ∧ ∀ z ∈ L, 0 ≤ z := by
  have h' : (Mu43Neutral.nine n && (Mu43Neutral.nine f && (decide (L.length ≤ 10) && L.all fun (z : Int) => NeutralIO.within z 0 24))) = true := h
  simp only [Bool.and_eq_true, List.all_eq_true] at h'
  obtain ⟨h1, h2, _, h3⟩ := h'
  unfold Mu43Neutral.nine NeutralIO.within at h1 h2
  simp only [Bool.and_eq_true, decide_eq_true_eq] at h1 h2
  refine ⟨h1.1, h2.1, fun z hz => ?_⟩
  have := h3 z hz
  unfold NeutralIO.within at this
  simp only [Bool.and_eq_true, decide_eq_true_eq] at this
  exact this.1
theorem step_begin (o : Mu43.Abs) (n f : Int) (L : List Int) : Mu43Neutral.step o [[0, n, f], L] = if bad n.toNat f.toNat (Mu43Neutral.nats L) then (o, [-1]) else (some ⟨⟨n.toNat, f.toNat, Mu43Neutral.nats L⟩, []⟩, [0]) := by
  show Mu43.step o (.begin_ n.toNat f.toNat (Mu43Neutral.nats L)) = _
  unfold Mu43.step
  by_cases c : bad n.toNat f.toNat (Mu43Neutral.nats L)
  · rw [if_pos c]
    unfold bad at c
    cases o <;> exact if_pos c
  · rw [if_neg c]
    unfold bad at c
    cases o <;> exact if_neg c
/-- what is known stays known -/
theorem known {H H' : Hp} (e : Ex H H') {b : Addr} (h : H b ≠ none) : H' b ≠ none := by
  cases q : H b with
  | none => exact absurd q h
  | some o =>
    rw [e _ _ q]
    exact fun z => nomatch z
theorem known_upd {H : Hp} {b p : Addr} {o : HO} (h : H b ≠ none) : upd H p o b ≠ none := by
  by_cases c : b = p
  · rw [c, upd_same]
    exact fun z => nomatch z
  · rw [upd_ne c]
    exact h
end Sw


namespace Sw
open PySem PySem.Spec PyProof.Rows L2 Evl
section
variable {K : PySem.W.Frag} {σ : L2.St} {H : Hp} {D : Ends} {tu tz : TS}
/-- if x == j: .., where x is not j, where it is -/
theorem q_past {i : Nat} {p j : Int} (hi : σ[i]? = some (some (.int p))) (hn : p ≠ j) (k : tz D σ H) : tSeq (tIfS (tTest (tOp rEq (tVar i) (tC (.int j)))) tu tNext) tz D σ H := by
  refine ⟨.int p, hi, rfl, decide (V.int p = V.int j), rfl, ?_⟩
  rw [decide_eq_false fun z => hn (V.int.inj z)]
  exact k
theorem q_here {i : Nat} {p j : Int} (hi : σ[i]? = some (some (.int p))) (hn : p = j) (k : tu { D with nx := tz D } σ H) : tSeq (tIfS (tTest (tOp rEq (tVar i) (tC (.int j)))) tu tNext) tz D σ H := by
  refine ⟨.int p, hi, rfl, decide (V.int p = V.int j), rfl, ?_⟩
  rw [decide_eq_true (congrArg V.int hn)]
  exact k
end
def spOfTurn (K : PySem.W.Frag) (C : Addr) : Sp := fun vs H Q _ => ∃ (a b : Addr) (s : Mu43.State) (p : Int) (rr tl : List Int) (c : List (List Int)), vs = [.ref a, .int p, .ref b] ∧ ShipAt C H a s.turn ∧ OkT s.turn ∧ SqL K H b (vI (behind c)) ∧ Form (p :: rr) c tl ∧ (p = 3 ∨ p = 4 ∨ p = 6 ∨ p = 7) ∧ Mu43Neutral.asked1 c = true ∧ RetL (vI (Mu43Neutral.step (some s) c).2) H Q
def spAOf (K : PySem.W.Frag) (CR C : Addr) : Sp := fun vs H Q _ => ∃ (H0 : Hp) (r b : Addr) (s : Mu43.State) (p : Int) (rr tl : List Int) (c : List (List Int)), vs = [.ref r, .int p, .ref b] ∧ RosIn CR C H0 H r s ∧ OkS s ∧ (∀ b, H0 b ≠ none → H b ≠ none) ∧ SqL K H b (vI (behind c)) ∧ p ≠ 0 ∧ Form (p :: rr) c tl ∧ Mu43Neutral.asked1 c = true ∧ Post CR C H0 H r (Mu43Neutral.step (some s) c) Q
def spAns (K : PySem.W.Frag) : Sp := fun vs H Q _ => ∃ (a : Addr) (ns : List Int), vs = [.ref a] ∧ SqL K H a (ns.map V.int) ∧ ns.length ≤ 900 ∧ (∀ x ∈ ns, 0 ≤ x ∧ x ≤ 300) ∧ PyMu43.answers_asked ns = true ∧
  ∀ (H' : Hp) (p : Addr), H' p = some (.lst ((PyMu43.answers ns).map V.int)) → Q (.ref p) H'
section
variable {P : Program} {w : World} {K : PySem.W.Frag} {mg : Str → Option Value} {base : Heap} {C CR : Addr}
theorem p_answer_of_turn (Z : Top K mg C CR) : FnP P w K mg base 6 "answer_of_turn" ["ship", "number", "numbers"] (spOfTurn K C) := by
  obtain ⟨f, fd, F, b, m, kp⟩ := Z.f_answer_of_turn
  obtain ⟨f_answer_comes, fd_answer_comes, G_answer_comes, b_answer_comes, g_answer_comes, kp_answer_comes⟩ := p_answer_comes (P := P) (w := w) (base := base) Z
  obtain ⟨f_answer_round, fd_answer_round, G_answer_round, b_answer_round, g_answer_round, kp_answer_round⟩ := p_answer_round (P := P) (w := w) (base := base) Z
  obtain ⟨f_answer_even, fd_answer_even, G_answer_even, b_answer_even, g_answer_even, kp_answer_even⟩ := p_answer_even (P := P) (w := w) (base := base) Z
  obtain ⟨f_answer_rests, fd_answer_rests, G_answer_rests, b_answer_rests, g_answer_rests, kp_answer_rests⟩ := p_answer_rests (P := P) (w := w) (base := base) Z
  have T := Z.T
  obtain ⟨_, c_ROUND⟩ := T.c_ROUND
  obtain ⟨_, c_EVEN⟩ := T.c_EVEN
  obtain ⟨_, c_RESTS⟩ := T.c_RESTS
  refine ⟨f, fd, F.ok sc_answer_of_turn (fun vs H Q E h => ?_) (fun cdv A outer s H vs Q E hr h => ?_), b, m, kp⟩
  · obtain ⟨a, b, s, p, rr, tl, c, rfl, _⟩ := h
    rfl
  · obtain ⟨a, b, s0, p, rr, tl, c, rfl, S, O, hs, fm, hp, hask, k⟩ := h
    have nd := sc_answer_of_turn.nd
    have hr_answer_comes : Room 4 _ := hr.mono (by decide)
    have hr_answer_round : Room 4 _ := hr.mono (by decide)
    have hr_answer_even : Room 5 _ := hr.mono (by decide)
    have hr_answer_rests : Room 5 _ := hr.mono (by decide)
    refine ⟨_, (pss_cons (ps_if (pt_cmpR op_eq (pv 1) (pe_gint rfl c_ROUND) (nomark _)) (pss_one (ps_ret (pe_call G_answer_round hr_answer_round (by rfl) g_answer_round kp_answer_round b_answer_round .nil pass0 (pa_cons (pv 0) pa_nil)))) pss_nil) (pss_cons (ps_if (pt_cmpR op_eq (pv 1) (pe_gint rfl c_EVEN) (nomark _)) (pss_one (ps_ret (pe_call G_answer_even hr_answer_even (by rfl) g_answer_even kp_answer_even b_answer_even .nil pass0 (pa_cons (pv 0) pa_nil)))) pss_nil) (pss_cons (ps_if (pt_cmpR op_eq (pv 1) (pe_gint rfl c_RESTS) (nomark _)) (pss_one (ps_ret (pe_call G_answer_rests hr_answer_rests (by rfl) g_answer_rests kp_answer_rests b_answer_rests .nil pass0 (pa_cons (pv 0) (pa_cons (pe_ix ix_list (pv 2) pe_int (fun _ _ => rfl)) pa_nil))))) pss_nil) (pss_one (ps_ret (pe_call G_answer_comes hr_answer_comes (by rfl) g_answer_comes kp_answer_comes b_answer_comes .nil pass0 (pa_cons (pv 0) (pa_cons (pe_ix ix_list (pv 2) pe_int (fun _ _ => rfl)) (pa_cons (pe_ix ix_list (pv 2) pe_int (fun _ _ => rfl)) (pa_cons (pe_ix ix_list (pv 2) pe_int (fun _ _ => rfl)) pa_nil)))))))))), ?_⟩
    cases fm with
    | begin_ x_n x_f L t =>
      exfalso
      omega
    | who x_d x_h t =>
      exfalso
      omega
    | day x_d t =>
      exfalso
      omega
    | round t =>
      refine q_here rfl rfl ?_
      exact s_retL (el_call (dvs := []) (ea_cons (ev_var rfl) ea_nil) (l_round S O)) k
    | even t =>
      refine q_past rfl (by decide) ?_
      refine q_here rfl rfl ?_
      exact s_retL (el_call (dvs := []) (ea_cons (ev_var rfl) ea_nil) (l_even S O)) k
    | hours x_a x_d x_e t =>
      exfalso
      omega
    | rests x_a t =>
      simp only [Mu43Neutral.asked1, Mu43Neutral.nine, Mu43Neutral.day, Mu43Neutral.thirty, NeutralIO.within, Bool.and_eq_true, decide_eq_true_eq] at hask
      obtain ⟨n_a, rfl⟩ : ∃ m : Nat, x_a = (m : Int) := ⟨x_a.toNat, by omega⟩
      refine q_past rfl (by decide) ?_
      refine q_past rfl (by decide) ?_
      refine q_here rfl rfl ?_
      exact s_retL (el_call (dvs := []) (ea_cons (ev_var rfl) (ea_cons (ev_op (ev_var rfl) ev_c (rv_ixL hs (atI_int (j := 0) rfl rfl))) ea_nil)) (l_rests S O)) k
    | comes x_a x_w x_d t =>
      simp only [Mu43Neutral.asked1, Mu43Neutral.nine, Mu43Neutral.day, Mu43Neutral.thirty, NeutralIO.within, Bool.and_eq_true, decide_eq_true_eq] at hask
      obtain ⟨n_a, rfl⟩ : ∃ m : Nat, x_a = (m : Int) := ⟨x_a.toNat, by omega⟩
      obtain ⟨n_w, rfl⟩ : ∃ m : Nat, x_w = (m : Int) := ⟨x_w.toNat, by omega⟩
      obtain ⟨n_d, rfl⟩ : ∃ m : Nat, x_d = (m : Int) := ⟨x_d.toNat, by omega⟩
      refine q_past rfl (by decide) ?_
      refine q_past rfl (by decide) ?_
      refine q_past rfl (by decide) ?_
      exact s_retL (el_call (dvs := []) (ea_cons (ev_var rfl) (ea_cons (ev_op (ev_var rfl) ev_c (rv_ixL hs (atI_int (j := 0) rfl rfl))) (ea_cons (ev_op (ev_var rfl) ev_c (rv_ixL hs (atI_int (j := 1) rfl rfl))) (ea_cons (ev_op (ev_var rfl) ev_c (rv_ixL hs (atI_int (j := 2) rfl rfl))) ea_nil)))) (l_comes S O)) k
    | cuts x_k x_lo x_hi t =>
      exfalso
      omega
    | kinds x_n t =>
      exfalso
      omega
    | swap x_d x_w x_e x_v t =>
      exfalso
      omega
    | undo x_i t =>
      exfalso
      omega
    | swaps t =>
      exfalso
      omega
theorem l_of_turn {H : Hp} {a b : Addr} {s : Mu43.State} {p : Int} {rr tl : List Int} {c : List (List Int)} (S : ShipAt C H a s.turn) (O : OkT s.turn) (hs : SqL K H b (vI (behind c))) (fm : Form (p :: rr) c tl) (hp : p = 3 ∨ p = 4 ∨ p = 6 ∨ p = 7) (hask : Mu43Neutral.asked1 c = true) : SpL (spOfTurn K C) [.ref a, .int p, .ref b] H (vI (Mu43Neutral.step (some s) c).2) := fun H1 e Q k E => ⟨a, b, s, p, rr, tl, c, rfl, S.mono e, O, ex_l e hs, fm, hp, hask, k⟩
theorem p_answer_of (Z : Top K mg C CR) : FnP P w K mg base 7 "answer_of" ["roster", "number", "numbers"] (spAOf K CR C) := by
  obtain ⟨f, fd, F, b, m, kp⟩ := Z.f_answer_of
  obtain ⟨f_answer_of_turn, fd_answer_of_turn, G_answer_of_turn, b_answer_of_turn, g_answer_of_turn, kp_answer_of_turn⟩ := p_answer_of_turn (P := P) (w := w) (base := base) Z
  obtain ⟨f_answer_who, fd_answer_who, G_answer_who, b_answer_who, g_answer_who, kp_answer_who⟩ := p_answer_who (P := P) (w := w) (base := base) Z
  obtain ⟨f_answer_day, fd_answer_day, G_answer_day, b_answer_day, g_answer_day, kp_answer_day⟩ := p_answer_day (P := P) (w := w) (base := base) Z
  obtain ⟨f_answer_hours, fd_answer_hours, G_answer_hours, b_answer_hours, g_answer_hours, kp_answer_hours⟩ := p_answer_hours (P := P) (w := w) (base := base) Z
  obtain ⟨f_answer_swap, fd_answer_swap, G_answer_swap, b_answer_swap, g_answer_swap, kp_answer_swap⟩ := p_answer_swap (P := P) (w := w) (base := base) Z
  obtain ⟨f_answer_undo, fd_answer_undo, G_answer_undo, b_answer_undo, g_answer_undo, kp_answer_undo⟩ := p_answer_undo (P := P) (w := w) (base := base) Z
  obtain ⟨f_answer_swaps, fd_answer_swaps, G_answer_swaps, b_answer_swaps, g_answer_swaps, kp_answer_swaps⟩ := p_answer_swaps (P := P) (w := w) (base := base) Z
  obtain ⟨f_answer_cuts, fd_answer_cuts, G_answer_cuts, b_answer_cuts, g_answer_cuts, kp_answer_cuts⟩ := p_answer_cuts (P := P) (w := w) (base := base) Z
  obtain ⟨f_answer_kinds, fd_answer_kinds, G_answer_kinds, b_answer_kinds, g_answer_kinds, kp_answer_kinds⟩ := p_answer_kinds (P := P) (w := w) (base := base) Z
  have T := Z.T
  obtain ⟨_, c_WHO⟩ := T.c_WHO
  obtain ⟨_, c_DAY⟩ := T.c_DAY
  obtain ⟨_, c_HOURS⟩ := T.c_HOURS
  obtain ⟨_, c_SWAP⟩ := T.c_SWAP
  obtain ⟨_, c_UNDO⟩ := T.c_UNDO
  obtain ⟨_, c_SWAPS⟩ := T.c_SWAPS
  obtain ⟨_, c_CUTS⟩ := T.c_CUTS
  obtain ⟨_, c_KINDS⟩ := T.c_KINDS
  refine ⟨f, fd, F.ok sc_answer_of (fun vs H Q E h => ?_) (fun cdv A outer s H vs Q E hr h => ?_), b, m, kp⟩
  · obtain ⟨H0, r, b, s, p, rr, tl, c, rfl, _⟩ := h
    rfl
  · obtain ⟨H0, r, b, s0, p, rr, tl, c, rfl, S, O, tr, hs, hp, fm, hask, k⟩ := h
    have nd := sc_answer_of.nd
    have hr_answer_of_turn : Room 6 _ := hr.mono (by decide)
    have hr_answer_who : Room 3 _ := hr.mono (by decide)
    have hr_answer_day : Room 4 _ := hr.mono (by decide)
    have hr_answer_hours : Room 4 _ := hr.mono (by decide)
    have hr_answer_swap : Room 6 _ := hr.mono (by decide)
    have hr_answer_undo : Room 6 _ := hr.mono (by decide)
    have hr_answer_swaps : Room 3 _ := hr.mono (by decide)
    have hr_answer_cuts : Room 3 _ := hr.mono (by decide)
    have hr_answer_kinds : Room 4 _ := hr.mono (by decide)
    refine ⟨_, (pss_cons (ps_if (pt_cmpR op_eq (pv 1) (pe_gint rfl c_WHO) (nomark _)) (pss_one (ps_ret (pe_call G_answer_who hr_answer_who (by rfl) g_answer_who kp_answer_who b_answer_who .nil pass0 (pa_cons (pv 0) (pa_cons (pe_ix ix_list (pv 2) pe_int (fun _ _ => rfl)) (pa_cons (pe_ix ix_list (pv 2) pe_int (fun _ _ => rfl)) pa_nil)))))) pss_nil) (pss_cons (ps_if (pt_cmpR op_eq (pv 1) (pe_gint rfl c_DAY) (nomark _)) (pss_one (ps_ret (pe_call G_answer_day hr_answer_day (by rfl) g_answer_day kp_answer_day b_answer_day .nil pass0 (pa_cons (pv 0) (pa_cons (pe_ix ix_list (pv 2) pe_int (fun _ _ => rfl)) pa_nil))))) pss_nil) (pss_cons (ps_if (pt_cmpR op_eq (pv 1) (pe_gint rfl c_HOURS) (nomark _)) (pss_one (ps_ret (pe_call G_answer_hours hr_answer_hours (by rfl) g_answer_hours kp_answer_hours b_answer_hours .nil pass0 (pa_cons (pv 0) (pa_cons (pe_ix ix_list (pv 2) pe_int (fun _ _ => rfl)) (pa_cons (pe_ix ix_list (pv 2) pe_int (fun _ _ => rfl)) (pa_cons (pe_ix ix_list (pv 2) pe_int (fun _ _ => rfl)) pa_nil))))))) pss_nil) (pss_cons (ps_if (pt_cmpR op_eq (pv 1) (pe_gint rfl c_SWAP) (nomark _)) (pss_one (ps_ret (pe_call G_answer_swap hr_answer_swap (by rfl) g_answer_swap kp_answer_swap b_answer_swap .nil pass0 (pa_cons (pv 0) (pa_cons (pv 2) pa_nil))))) pss_nil) (pss_cons (ps_if (pt_cmpR op_eq (pv 1) (pe_gint rfl c_UNDO) (nomark _)) (pss_one (ps_ret (pe_call G_answer_undo hr_answer_undo (by rfl) g_answer_undo kp_answer_undo b_answer_undo .nil pass0 (pa_cons (pv 0) (pa_cons (pe_ix ix_list (pv 2) pe_int (fun _ _ => rfl)) pa_nil))))) pss_nil) (pss_cons (ps_if (pt_cmpR op_eq (pv 1) (pe_gint rfl c_SWAPS) (nomark _)) (pss_one (ps_ret (pe_call G_answer_swaps hr_answer_swaps (by rfl) g_answer_swaps kp_answer_swaps b_answer_swaps .nil pass0 (pa_cons (pv 0) pa_nil)))) pss_nil) (pss_cons (ps_if (pt_cmpR op_eq (pv 1) (pe_gint rfl c_CUTS) (nomark _)) (pss_one (ps_ret (pe_call G_answer_cuts hr_answer_cuts (by rfl) g_answer_cuts kp_answer_cuts b_answer_cuts .nil pass0 (pa_cons (pe_ix ix_list (pv 2) pe_int (fun _ _ => rfl)) (pa_cons (pe_ix ix_list (pv 2) pe_int (fun _ _ => rfl)) (pa_cons (pe_ix ix_list (pv 2) pe_int (fun _ _ => rfl)) pa_nil)))))) pss_nil) (pss_cons (ps_if (pt_cmpR op_eq (pv 1) (pe_gint rfl c_KINDS) (nomark _)) (pss_one (ps_ret (pe_call G_answer_kinds hr_answer_kinds (by rfl) g_answer_kinds kp_answer_kinds b_answer_kinds .nil pass0 (pa_cons (pe_ix ix_list (pv 2) pe_int (fun _ _ => rfl)) pa_nil)))) pss_nil) (pss_one (ps_ret (pe_call G_answer_of_turn hr_answer_of_turn (by rfl) g_answer_of_turn kp_answer_of_turn b_answer_of_turn .nil pass0 (pa_cons (pe_fld (pv 0) rfl) (pa_cons (pv 1) (pa_cons (pv 2) pa_nil)))))))))))))), ?_⟩
    have fm0 := fm
    have hask0 := hask
    obtain ⟨dx, a, sx, l, x, d, vs, _, h1, h2, h3, _⟩ := S.ex
    have hSA : ShipAt C H a s0.turn := ⟨sx, l, h2, h3⟩
    cases fm with
    | begin_ x_n x_f L t =>
      exact absurd rfl hp
    | who x_d x_h t =>
      simp only [Mu43Neutral.asked1, Mu43Neutral.nine, Mu43Neutral.day, Mu43Neutral.thirty, NeutralIO.within, Bool.and_eq_true, decide_eq_true_eq] at hask
      obtain ⟨n_d, rfl⟩ : ∃ m : Nat, x_d = (m : Int) := ⟨x_d.toNat, by omega⟩
      obtain ⟨n_h, rfl⟩ : ∃ m : Nat, x_h = (m : Int) := ⟨x_h.toNat, by omega⟩
      refine q_here rfl rfl ?_
      have k2 : Post CR C H0 H r (some s0, aWho s0 n_d n_h) Q := k
      exact s_retL (el_call (dvs := []) (ea_cons (ev_var rfl) (ea_cons (ev_op (ev_var rfl) ev_c (rv_ixL hs (atI_int (j := 0) rfl rfl))) (ea_cons (ev_op (ev_var rfl) ev_c (rv_ixL hs (atI_int (j := 1) rfl rfl))) ea_nil))) (l_who S.at_ O.t)) (k2.same S O tr)
    | day x_d t =>
      simp only [Mu43Neutral.asked1, Mu43Neutral.nine, Mu43Neutral.day, Mu43Neutral.thirty, NeutralIO.within, Bool.and_eq_true, decide_eq_true_eq] at hask
      obtain ⟨n_d, rfl⟩ : ∃ m : Nat, x_d = (m : Int) := ⟨x_d.toNat, by omega⟩
      refine q_past rfl (by decide) ?_
      refine q_here rfl rfl ?_
      have k2 : Post CR C H0 H r (some s0, aDay s0 n_d) Q := k
      exact s_retL (el_call (dvs := []) (ea_cons (ev_var rfl) (ea_cons (ev_op (ev_var rfl) ev_c (rv_ixL hs (atI_int (j := 0) rfl rfl))) ea_nil)) (l_day S.at_ O.t)) (k2.same S O tr)
    | round t =>
      refine q_past rfl (by decide) ?_
      refine q_past rfl (by decide) ?_
      refine q_past rfl (by decide) ?_
      refine q_past rfl (by decide) ?_
      refine q_past rfl (by decide) ?_
      refine q_past rfl (by decide) ?_
      refine q_past rfl (by decide) ?_
      refine q_past rfl (by decide) ?_
      exact s_retL (el_call (dvs := []) (ea_cons (ev_fld (ev_var rfl) h1 T.clRoster T.nRoster_ship (roShip a x d)) (ea_cons (ev_var rfl) (ea_cons (ev_var rfl) ea_nil))) (l_of_turn hSA O.t hs fm0 (by decide) hask0)) (Post.same (ans := (Mu43Neutral.step (some s0) _).2) k S O tr)
    | even t =>
      refine q_past rfl (by decide) ?_
      refine q_past rfl (by decide) ?_
      refine q_past rfl (by decide) ?_
      refine q_past rfl (by decide) ?_
      refine q_past rfl (by decide) ?_
      refine q_past rfl (by decide) ?_
      refine q_past rfl (by decide) ?_
      refine q_past rfl (by decide) ?_
      exact s_retL (el_call (dvs := []) (ea_cons (ev_fld (ev_var rfl) h1 T.clRoster T.nRoster_ship (roShip a x d)) (ea_cons (ev_var rfl) (ea_cons (ev_var rfl) ea_nil))) (l_of_turn hSA O.t hs fm0 (by decide) hask0)) (Post.same (ans := (Mu43Neutral.step (some s0) _).2) k S O tr)
    | hours x_a x_d x_e t =>
      simp only [Mu43Neutral.asked1, Mu43Neutral.nine, Mu43Neutral.day, Mu43Neutral.thirty, NeutralIO.within, Bool.and_eq_true, decide_eq_true_eq] at hask
      obtain ⟨n_a, rfl⟩ : ∃ m : Nat, x_a = (m : Int) := ⟨x_a.toNat, by omega⟩
      obtain ⟨n_d, rfl⟩ : ∃ m : Nat, x_d = (m : Int) := ⟨x_d.toNat, by omega⟩
      obtain ⟨n_e, rfl⟩ : ∃ m : Nat, x_e = (m : Int) := ⟨x_e.toNat, by omega⟩
      refine q_past rfl (by decide) ?_
      refine q_past rfl (by decide) ?_
      refine q_here rfl rfl ?_
      have k2 : Post CR C H0 H r (some s0, aHours s0 n_a n_d n_e) Q := k
      exact s_retL (el_call (dvs := []) (ea_cons (ev_var rfl) (ea_cons (ev_op (ev_var rfl) ev_c (rv_ixL hs (atI_int (j := 0) rfl rfl))) (ea_cons (ev_op (ev_var rfl) ev_c (rv_ixL hs (atI_int (j := 1) rfl rfl))) (ea_cons (ev_op (ev_var rfl) ev_c (rv_ixL hs (atI_int (j := 2) rfl rfl))) ea_nil)))) (l_hours S.at_ O.t)) (k2.same S O tr)
    | rests x_a t =>
      refine q_past rfl (by decide) ?_
      refine q_past rfl (by decide) ?_
      refine q_past rfl (by decide) ?_
      refine q_past rfl (by decide) ?_
      refine q_past rfl (by decide) ?_
      refine q_past rfl (by decide) ?_
      refine q_past rfl (by decide) ?_
      refine q_past rfl (by decide) ?_
      exact s_retL (el_call (dvs := []) (ea_cons (ev_fld (ev_var rfl) h1 T.clRoster T.nRoster_ship (roShip a x d)) (ea_cons (ev_var rfl) (ea_cons (ev_var rfl) ea_nil))) (l_of_turn hSA O.t hs fm0 (by decide) hask0)) (Post.same (ans := (Mu43Neutral.step (some s0) _).2) k S O tr)
    | comes x_a x_w x_d t =>
      refine q_past rfl (by decide) ?_
      refine q_past rfl (by decide) ?_
      refine q_past rfl (by decide) ?_
      refine q_past rfl (by decide) ?_
      refine q_past rfl (by decide) ?_
      refine q_past rfl (by decide) ?_
      refine q_past rfl (by decide) ?_
      refine q_past rfl (by decide) ?_
      exact s_retL (el_call (dvs := []) (ea_cons (ev_fld (ev_var rfl) h1 T.clRoster T.nRoster_ship (roShip a x d)) (ea_cons (ev_var rfl) (ea_cons (ev_var rfl) ea_nil))) (l_of_turn hSA O.t hs fm0 (by decide) hask0)) (Post.same (ans := (Mu43Neutral.step (some s0) _).2) k S O tr)
    | cuts x_k x_lo x_hi t =>
      simp only [Mu43Neutral.asked1, Mu43Neutral.nine, Mu43Neutral.day, Mu43Neutral.thirty, NeutralIO.within, Bool.and_eq_true, decide_eq_true_eq] at hask
      obtain ⟨n_k, rfl⟩ : ∃ m : Nat, x_k = (m : Int) := ⟨x_k.toNat, by omega⟩
      obtain ⟨n_lo, rfl⟩ : ∃ m : Nat, x_lo = (m : Int) := ⟨x_lo.toNat, by omega⟩
      obtain ⟨n_hi, rfl⟩ : ∃ m : Nat, x_hi = (m : Int) := ⟨x_hi.toNat, by omega⟩
      refine q_past rfl (by decide) ?_
      refine q_past rfl (by decide) ?_
      refine q_past rfl (by decide) ?_
      refine q_past rfl (by decide) ?_
      refine q_past rfl (by decide) ?_
      refine q_past rfl (by decide) ?_
      refine q_here rfl rfl ?_
      have k2 : Post CR C H0 H r (some s0, aCuts n_k n_lo n_hi) Q := k
      exact s_retL (el_call (dvs := []) (ea_cons (ev_op (ev_var rfl) ev_c (rv_ixL hs (atI_int (j := 0) rfl rfl))) (ea_cons (ev_op (ev_var rfl) ev_c (rv_ixL hs (atI_int (j := 1) rfl rfl))) (ea_cons (ev_op (ev_var rfl) ev_c (rv_ixL hs (atI_int (j := 2) rfl rfl))) ea_nil))) (l_cuts (by omega))) (k2.same S O tr)
    | kinds x_n t =>
      simp only [Mu43Neutral.asked1, Mu43Neutral.nine, Mu43Neutral.day, Mu43Neutral.thirty, NeutralIO.within, Bool.and_eq_true, decide_eq_true_eq] at hask
      obtain ⟨n_n, rfl⟩ : ∃ m : Nat, x_n = (m : Int) := ⟨x_n.toNat, by omega⟩
      refine q_past rfl (by decide) ?_
      refine q_past rfl (by decide) ?_
      refine q_past rfl (by decide) ?_
      refine q_past rfl (by decide) ?_
      refine q_past rfl (by decide) ?_
      refine q_past rfl (by decide) ?_
      refine q_past rfl (by decide) ?_
      refine q_here rfl rfl ?_
      have k2 : Post CR C H0 H r (some s0, aKinds n_n) Q := k
      exact s_retL (el_call (dvs := []) (ea_cons (ev_op (ev_var rfl) ev_c (rv_ixL hs (atI_int (j := 0) rfl rfl))) ea_nil) (l_kinds)) (k2.same S O tr)
    | swap x_d x_w x_e x_v t =>
      simp only [Mu43Neutral.asked1, Mu43Neutral.nine, Mu43Neutral.day, Mu43Neutral.thirty, NeutralIO.within, Bool.and_eq_true, decide_eq_true_eq] at hask
      obtain ⟨n_d, rfl⟩ : ∃ m : Nat, x_d = (m : Int) := ⟨x_d.toNat, by omega⟩
      obtain ⟨n_w, rfl⟩ : ∃ m : Nat, x_w = (m : Int) := ⟨x_w.toNat, by omega⟩
      obtain ⟨n_e, rfl⟩ : ∃ m : Nat, x_e = (m : Int) := ⟨x_e.toNat, by omega⟩
      obtain ⟨n_v, rfl⟩ : ∃ m : Nat, x_v = (m : Int) := ⟨x_v.toNat, by omega⟩
      refine q_past rfl (by decide) ?_
      refine q_past rfl (by decide) ?_
      refine q_past rfl (by decide) ?_
      refine q_here rfl rfl ?_
      exact s_retC (dvs := []) (ea_cons (ev_var rfl) (ea_cons (ev_var rfl) ea_nil)) fun H1 e1 => ⟨H0, r, b, s0, n_d, n_w, n_e, n_v, rfl, ex_l e1 hs, S.mono e1, O, fun b hb z => tr b hb (fresh_back e1 z), k.mono e1⟩
    | undo x_i t =>
      simp only [Mu43Neutral.asked1, Mu43Neutral.nine, Mu43Neutral.day, Mu43Neutral.thirty, NeutralIO.within, Bool.and_eq_true, decide_eq_true_eq] at hask
      obtain ⟨n_i, rfl⟩ : ∃ m : Nat, x_i = (m : Int) := ⟨x_i.toNat, by omega⟩
      refine q_past rfl (by decide) ?_
      refine q_past rfl (by decide) ?_
      refine q_past rfl (by decide) ?_
      refine q_past rfl (by decide) ?_
      refine q_here rfl rfl ?_
      exact s_retC (dvs := []) (ea_cons (ev_var rfl) (ea_cons (ev_op (ev_var rfl) ev_c (rv_ixL hs (atI_int (j := 0) rfl rfl))) ea_nil)) fun H1 e1 => ⟨H0, r, s0, n_i, rfl, S.mono e1, O, fun b hb z => tr b hb (fresh_back e1 z), k.mono e1⟩
    | swaps t =>
      refine q_past rfl (by decide) ?_
      refine q_past rfl (by decide) ?_
      refine q_past rfl (by decide) ?_
      refine q_past rfl (by decide) ?_
      refine q_past rfl (by decide) ?_
      refine q_here rfl rfl ?_
      have k2 : Post CR C H0 H r (some s0, aSwaps s0) Q := k
      exact s_retL (el_call (dvs := []) (ea_cons (ev_var rfl) ea_nil) (l_swaps S.at_ O.t O.few)) (k2.same S O tr)
end
end Sw


namespace Sw
open PySem PySem.Spec PyProof.Rows L2 Evl
/-- no ship, or one -/
def AbsAt (CR C : Addr) (H0 H : Hp) (v : V) (o : Mu43.Abs) : Prop := (v = .non ∧ o = none) ∨ ∃ a s, v = .ref a ∧ o = some s ∧ RosIn CR C H0 H a s ∧ OkS s
theorem AbsAt.mono {CR C : Addr} {H0 H H' : Hp} {v : V} {o : Mu43.Abs} (h : AbsAt CR C H0 H v o) (e : Ex H H') : AbsAt CR C H0 H' v o := by
  rcases h with h | ⟨a, s, h1, h2, h3, h4⟩
  · exact .inl h
  · exact .inr ⟨a, s, h1, h2, h3.mono e, h4⟩
theorem AbsAt.upd {CR C : Addr} {H0 H : Hp} {p : Addr} {ys : List V} {v : V} {o : Mu43.Abs} {ob : HO} (h : AbsAt CR C H0 H v o) (hp : H0 p ≠ none) (hl : H p = some (.lst ys)) : AbsAt CR C H0 (upd H p ob) v o := by
  rcases h with h | ⟨a, s, h1, h2, h3, h4⟩
  · exact .inl h
  · exact .inr ⟨a, s, h1, h2, h3.upd hp hl, h4⟩
/-- what holds between two turns -/
structure Turning (CR C : Addr) (H H0 : Hp) (a p : Addr) (ns : List Int) (s : Nat) (H' : Hp) (v : V) (out : List Int) (o : Mu43.Abs) (cs : List (List (List Int))) : Prop where
  left : Left (ns.drop s) cs
  told : out ++ rest o cs = PyMu43.answers ns
  few : cs.length ≤ 60
  size : out.length + 40 * cs.length ≤ 2400
  ship : AbsAt CR C H0 H' v o
  kept : Ex H H'
  out : H' p = some (.lst (vI out))
  track : ∀ b, H0 b ≠ none → H' b ≠ none
section
variable {P : Program} {w : World} {K : PySem.W.Frag} {mg : Str → Option Value} {base : Heap} {C CR : Addr}
theorem main_ok (Z : Top K mg C CR) {f : Addr} {fd : FuncData} (F : Fun K "answers" "answers" s_answers f fd) : FnOk P w K mg base CX0 8 f fd ["calls"] (spAns K) := by
  obtain ⟨f_end_of_call, fd_end_of_call, G_end_of_call, b_end_of_call, g_end_of_call, kp_end_of_call⟩ := p_end_of_call (P := P) (w := w) (base := base) Z
  obtain ⟨f_roster_of, fd_roster_of, G_roster_of, b_roster_of, g_roster_of, kp_roster_of⟩ := p_roster_of (P := P) (w := w) (base := base) Z
  obtain ⟨f_answer_of, fd_answer_of, G_answer_of, b_answer_of, g_answer_of, kp_answer_of⟩ := p_answer_of (P := P) (w := w) (base := base) Z
  have T := Z.T
  obtain ⟨_, c_BEGIN⟩ := T.c_BEGIN
  obtain ⟨_, c_NOT_AS_TOLD⟩ := T.c_NOT_AS_TOLD
  obtain ⟨_, c_NO_SHIP⟩ := T.c_NO_SHIP
  refine F.ok sc_answers (fun vs H Q E h => ?_) (fun cdv A outer s H vs Q E hr h => ?_)
  · obtain ⟨a, ns, rfl, _⟩ := h
    rfl
  · obtain ⟨a, ns, rfl, hs, hlen, hrng, hask, k⟩ := h
    have nd := sc_answers.nd
    have hr_end_of_call : Room 1 _ := hr.mono (by decide)
    have hr_roster_of : Room 4 _ := hr.mono (by decide)
    have hr_answer_of : Room 7 _ := hr.mono (by decide)
    refine ⟨_, (pss_cons (ps_set (i := 1) nd rfl (Or.inl rfl) pe_non) (pss_cons (ps_set (i := 2) nd rfl (Or.inl rfl) (pe_lst pa_nil)) (pss_cons (ps_set (i := 3) nd rfl (Or.inl rfl) pe_int) (pss_cons (ps_while PassesOwn.never (pt_cmpR op_lt (pv 3) (pe_callB call_len_seq (by rfl) T.z_len (by decide +kernel) (pa_cons (pv 0) pa_nil)) (nomark _)) (pss_cons (ps_set (i := 4) nd rfl (Or.inl rfl) (pe_call G_end_of_call hr_end_of_call (by rfl) g_end_of_call kp_end_of_call b_end_of_call .nil pass0 (pa_cons (pv 0) (pa_cons (pv 3) pa_nil)))) (pss_cons (ps_set (i := 5) nd rfl (Or.inl rfl) (pe_slice sl_list (pv 0) (po_some (pe_op op_add (pv 3) pe_int)) (po_some (pv 4)))) (Evl.pss_cut (ps_if (pt_cmpR op_eq (pe_ix ix_list (pv 0) (pv 3) (fun _ _ => rfl)) (pe_gint rfl c_BEGIN) (nomark _)) (pss_cons (ps_set (i := 6) nd rfl (Or.inl rfl) (pe_call G_roster_of hr_roster_of (by rfl) g_roster_of kp_roster_of b_roster_of .nil pass0 (pa_cons (pv 5) pa_nil))) (pss_cons (ps_set (i := 7) nd rfl (Or.inl rfl) (pe_ifExp (pt_cmpR op_isN (pv 6) pe_non (nomark _)) (pe_lst (pa_cons (pe_gint rfl c_NOT_AS_TOLD) pa_nil)) (pe_lst (pa_cons pe_int pa_nil)))) (pss_one (ps_set (i := 1) nd rfl (Or.inl rfl) (pe_ifExp (pt_cmpR op_isN (pv 6) pe_non (nomark _)) (pv 1) (pv 6)))))) (pss_one (ps_if (pt_cmpR op_isN (pv 1) pe_non (nomark _)) (pss_one (ps_set (i := 7) nd rfl (Or.inl rfl) (pe_lst (pa_cons (pe_gint rfl c_NO_SHIP) pa_nil)))) (pss_one (ps_set (i := 7) nd rfl (Or.inl rfl) (pe_call G_answer_of hr_answer_of (by rfl) g_answer_of kp_answer_of b_answer_of .nil pass0 (pa_cons (pv 1) (pa_cons (pe_ix ix_list (pv 0) (pv 3) (fun _ _ => rfl)) (pa_cons (pv 5) pa_nil))))))))) (pss_cons (ps_expr (pe_bm PySem.F.plainAttrs_list PySem.F.slot_list_append PySem.F.type_list_append mt_append (pv 2) (pa_cons (pe_callB call_len_seq (by rfl) T.z_len (by decide +kernel) (pa_cons (pv 7) pa_nil)) pa_nil))) (pss_cons (ps_expr (pe_bm PySem.F.plainAttrs_list PySem.F.slot_list_extend PySem.F.type_list_extend mt_extend (pv 2) (pa_cons (pv 7) pa_nil))) (pss_one (ps_set (i := 3) nd rfl (Or.inl rfl) (pv 4))))))))) (pss_one (ps_ret (pv 2))))))), ?_⟩
    have hs : SqL K H a (vI ns) := hs
    obtain ⟨cs0, left0, few0, told0⟩ := left_of hask
    refine q_asg ev_c fun H1 e1 => ?_
    refine q_asgL (el_lst ea_nil (by decide)) fun p H0 hp e2 h2 => ?_
    have hp0 : H0 p ≠ none := by
      rw [h2]
      exact fun z => nomatch z
    have hpH : H p = none := fresh_back e1 hp
    refine q_asg ev_c fun H3 e3 => ?_
    refine q_while (fun m σ' H' => ∃ (st : Nat) (v : V) (out : List Int) (o : Mu43.Abs) (cs : List (List (List Int))) (x4 x5 x6 x7 : Option V), st ≤ ns.length ∧ m = ns.length - st ∧ σ' = [some (.ref a), some v, some (.ref p), some (.int (st : Int)), x4, x5, x6, x7] ∧ Turning CR C H H0 a p ns st H' v out o cs)
      ns.length ⟨0, .non, [], none, cs0, none, none, none, none, by omega, rfl, rfl, left0, told0.symm, few0, by simp; omega, .inl ⟨rfl, rfl⟩, (e1.trans e2).trans e3, e3 _ _ h2, fun b hb => known e3 hb⟩ ?_
    rintro m σ' H' ⟨st, v, out, o, cs, x4, x5, x6, x7, hst, rfl, rfl, I⟩
    refine ⟨_, et_I0 (ev_var rfl) (ev_len (ev_var rfl) (ex_l I.kept hs)), fun hb H4 e4 => ?_, fun hb H4 e4 => ?_⟩
    · -- a turn
      rw [vI_len] at hb
      have hlt : st < ns.length := by
        have := of_decide_eq_true hb
        omega
      obtain ⟨pp, r, hdrop⟩ : ∃ pp r, ns.drop st = pp :: r := ⟨_, _, List.drop_eq_getElem_cons hlt⟩
      have left := I.left
      rw [hdrop] at left
      obtain ⟨c, t, cs', rfl, fm, left', hask1⟩ := left.next
      obtain ⟨pp', hsplit⟩ := fm.split
      have epp : pp' = pp ∧ r = behind c ++ t := by
        have := List.cons.inj hsplit
        exact ⟨this.1.symm, this.2⟩
      have hr2 : r = behind c ++ t := epp.2
      have hfm : Form (ns.drop st) c t := by rw [hdrop]; exact fm
      have hnl : ns.length = st + 1 + (behind c).length + t.length := by
        have h := congrArg List.length hdrop
        rw [List.length_drop, List.length_cons, hr2, List.length_append] at h
        omega
      have hdrop1 : ns.drop (st + 1) = r := by
        rw [← List.drop_drop, hdrop]
        rfl
      have hdropE : ns.drop (st + 1 + (behind c).length) = t := by
        rw [← List.drop_drop, hdrop1, hr2, List.drop_left]
      have hget : (vI ns)[st]? = some (.int pp) := by
        refine vI_get ?_
        have h : (ns.drop st)[0]? = some pp := by rw [hdrop]; rfl
        exact drop_get h
      have E4 := I.kept.trans e4
      refine ⟨fun σ2 H2 => ∃ m', m' < ns.length - st ∧ ∃ (st : Nat) (v : V) (out : List Int) (o : Mu43.Abs) (cs : List (List (List Int))) (x4 x5 x6 x7 : Option V), st ≤ ns.length ∧ m' = ns.length - st ∧ σ2 = [some (.ref a), some v, some (.ref p), some (.int (st : Int)), x4, x5, x6, x7] ∧ Turning CR C H H0 a p ns st H2 v out o cs, fun _ _ h => h, ?_⟩
      -- end, numbers
      refine q_asg (ev_call (dvs := []) (ea_cons (ev_var rfl) (ea_cons (ev_var rfl) ea_nil)) (v_end (ex_l E4 hs) hfm)) fun H5 e5 => ?_
      have E5 := E4.trans e5
      refine q_asgL (el_is (el_sl (ev_var rfl) (eo_some (ev_is (ev_op (ev_var rfl) ev_c rv_I0) (show V.int _ = V.int ((st + 1 : Nat) : Int) by push_cast; rfl))) (eo_some (ev_var rfl)) (ex_l E5 hs)) (cut_vI (by omega) (by omega))) fun b H6 hb6 e6 h6 => ?_
      have hnum : H6 b = some (.lst (vI (behind c))) := by
        rw [h6, hdrop1, hr2]
        congr 3
        rw [show st + 1 + (behind c).length - (st + 1) = (behind c).length by omega, List.take_left]
      have E6 := E5.trans e6
      have hout6 : H6 p = some (.lst (vI out)) := e6 _ _ (e5 _ _ (e4 _ _ I.out))
      have track6 : ∀ b, H0 b ≠ none → H6 b ≠ none := fun b hb => known e6 (known e5 (known e4 (I.track b hb)))
      have hship6 : AbsAt CR C H0 H6 v o := ((I.ship.mono e4).mono e5).mono e6
      -- the answer
      refine q_cut (M := fun σ2 H2 => ∃ (v2 : V) (q : Addr) (x6 : Option V), σ2 = [some (.ref a), some v2, some (.ref p), some (.int (st : Int)), some (.int ((st + 1 + (behind c).length : Nat) : Int)), some (.ref b), x6, some (.ref q)] ∧ H2 q = some (.lst (vI (Mu43Neutral.step o c).2)) ∧ q ≠ p ∧ H2 p = some (.lst (vI out)) ∧ AbsAt CR C H0 H2 v2 (Mu43Neutral.step o c).1 ∧ Ex H H2 ∧ (Mu43Neutral.step o c).2.length ≤ 39 ∧ ∀ b, H0 b ≠ none → H2 b ≠ none) ?_ ?_
      · refine s_if (et_eqI (ev_op (ev_var rfl) (ev_var rfl) (rv_ixL (ex_l E6 hs) (atI_int rfl hget))) ev_c) (fun hb7 H7 e7 => ?_) (fun hb7 H7 e7 => ?_)
        · -- begin
          have hpp : pp = 0 := of_decide_eq_true hb7
          subst hpp
          obtain ⟨n, ff, L, rfl⟩ := fm.isBegin
          obtain ⟨hn0, hf0, hL0⟩ := begin_asked hask1
          have hnum7 : SqL K H7 b (vI ((n.toNat : Int) :: (ff.toNat : Int) :: (L.length : Int) :: (Mu43Neutral.nats L).map fun (x : Nat) => (x : Int))) := by
            rw [Int.toNat_of_nonneg hn0, Int.toNat_of_nonneg hf0, ← nats_cast hL0]
            exact sq_of (e7 _ _ hnum)
          have hout7 := e7 _ _ hout6
          rw [step_begin]
          by_cases c : bad n.toNat ff.toNat (Mu43Neutral.nats L)
          · rw [if_pos c]
            refine q_asg (v := .non) (ev_call (dvs := []) (ea_cons (ev_var rfl) ea_nil) (fun H8 e8 Q8 q8 E8 => ⟨b, _, _, _, _, rfl, ex_l e8 hnum7, fun _ => q8, fun g => absurd c g⟩)) fun H8 e8 => ?_
            refine q_asgL (el_if (b := true) (et_is (et_isN (ev_var rfl)) rfl) (fun _ => el_lst (ea_cons ev_c ea_nil) (by simp)) (fun z => nomatch z)) fun q H9 hq e9 h9 => ?_
            refine s_asg (v := v) (ev_if (b := true) (et_is (et_isN (ev_var rfl)) rfl) (fun _ => ev_var rfl) (fun z => nomatch z)) fun H10 e10 => ?_
            have E10 := ((e7.trans e8).trans e9).trans e10
            exact ⟨v, q, _, rfl, e10 _ _ h9, ne_of_none (e8 _ _ hout7) hq |>.symm, E10 _ _ hout6, hship6.mono E10, E6.trans E10, by simp, fun b hb => known E10 (track6 b hb)⟩
          · rw [if_neg c]
            refine q_asgC (ea_cons (ev_var rfl) ea_nil) fun H8 e8 => ⟨b, _, _, _, _, rfl, ex_l e8 hnum7, fun g => absurd g c, fun _ H9 x e9 S9 => ?_⟩
            refine q_asgL (el_if (b := false) (et_is (et_isN (ev_var rfl)) rfl) (fun z => nomatch z) (fun _ => el_lst (ea_cons ev_c ea_nil) (by simp))) fun q H10 hq e10 h10 => ?_
            refine s_asg (v := .ref x) (ev_if (b := false) (et_is (et_isN (ev_var rfl)) rfl) (fun z => nomatch z) (fun _ => ev_var rfl)) fun H11 e11 => ?_
            have E11 := (((e7.trans e8).trans e9).trans e10).trans e11
            refine ⟨.ref x, q, _, rfl, e11 _ _ h10, ne_of_none (e9 _ _ (e8 _ _ hout7)) hq |>.symm, E11 _ _ hout6, .inr ⟨x, _, rfl, rfl, ?_, okS_new (ok_of_good c)⟩, E6.trans E11, by simp, fun b hb => known E11 (track6 b hb)⟩
            exact ((S9.mono e10).mono e11).back fun b hb => known (e7.trans e8) (track6 b hb)
        · have hpp : pp ≠ 0 := of_decide_eq_false hb7
          have hout7 := e7 _ _ hout6
          refine s_if (b := decide (v = .non)) (et_isN (ev_var rfl)) (fun hb8 H8 e8 => ?_) (fun hb8 H8 e8 => ?_)
          · have hv : v = .non := of_decide_eq_true hb8
            have ho : o = none := by
              rcases hship6 with ⟨_, h⟩ | ⟨a', s', h, _⟩
              · exact h
              · rw [hv] at h
                cases h
            rw [ho, step_none fm hpp]
            refine s_asgL (el_lst (ea_cons ev_c ea_nil) (by simp)) fun q H9 hq e9 h9 => ?_
            have E9 := (e7.trans e8).trans e9
            exact ⟨v, q, _, rfl, h9, ne_of_none (e8 _ _ hout7) hq |>.symm, E9 _ _ hout6, .inl ⟨hv, rfl⟩, E6.trans E9, by simp, fun b hb => known E9 (track6 b hb)⟩
          · have hv : v ≠ .non := of_decide_eq_false hb8
            rcases hship6 with ⟨h, _⟩ | ⟨a', s', rfl, rfl, S6, O⟩
            · exact absurd h hv
            · refine s_asgC (ea_cons (ev_var rfl) (ea_cons (ev_op (ev_var rfl) (ev_var rfl) (rv_ixL (ex_l ((E6.trans e7).trans e8) hs) (atI_int rfl hget))) (ea_cons (ev_var rfl) ea_nil))) fun H9 e9 => ?_
              have E9 := (e7.trans e8).trans e9
              refine ⟨H0, a', b, s', pp, r, t, c, rfl, S6.mono E9, O, fun z hz => known E9 (track6 z hz), sq_of (E9 _ _ hnum), hpp, fm, hask1, fun H10 q s10 kp10 nq h10 hs10 S10 O10 => ?_⟩
              refine ⟨.ref a', q, _, rfl, h10, fun z => hp0 (z ▸ nq), kp10 _ _ (E9 _ _ hout6) hp0, .inr ⟨a', s10, rfl, hs10, S10, O10⟩, fun z oz hz => kp10 _ _ ((E6.trans E9) _ _ hz) ?_, len_neutral O.t O.few c, fun z hz => ?_⟩
              · rw [e2 _ _ (e1 _ _ hz)]
                exact fun z => nomatch z
              · have h9 := known E9 (track6 z hz)
                cases q9 : H9 z with
                | none => exact absurd q9 h9
                | some oz =>
                  rw [kp10 _ _ q9 hz]
                  exact fun z => nomatch z
      · rintro σ7 H7 ⟨v2, q, y6, rfl, hq7, nqp, hp7, A7, E7, hlen7, track7⟩
        have hsz := I.size
        have hfew := I.few
        simp only [List.length_cons] at hsz hfew
        refine q_app hp7 (ev_var rfl) (ev_len (ev_var rfl) (sq_of hq7)) (by rw [vI_len]; omega) fun H8 e8 => ?_
        rw [vI_len]
        have hq8 : upd H8 p (.lst (vI out ++ [.int ((Mu43Neutral.step o c).2.length : Int)])) q = some (.lst (vI (Mu43Neutral.step o c).2)) := by
          rw [upd_ne nqp]
          exact e8 _ _ hq7
        refine q_extR upd_same (ev_var rfl) (ev_var rfl) hq8 (by rw [List.length_append, vI_len, vI_len]; simp only [List.length_cons, List.length_nil]; omega) fun H9 e9 => ?_
        refine s_asg (ev_var rfl) fun H10 e10 => ?_
        have hnew : vI out ++ [V.int ((Mu43Neutral.step o c).2.length : Int)] ++ vI (Mu43Neutral.step o c).2 = vI (out ++ ((Mu43Neutral.step o c).2.length : Int) :: (Mu43Neutral.step o c).2) := by
          unfold vI
          simp
        refine ⟨ns.length - (st + 1 + (behind c).length), by omega, st + 1 + (behind c).length, v2, out ++ ((Mu43Neutral.step o c).2.length : Int) :: (Mu43Neutral.step o c).2, (Mu43Neutral.step o c).1, cs', _, _, _, _, by omega, rfl, rfl, ⟨?_, ?_, by omega, ?_, ?_, ?_, ?_, fun z hz => known e10 (known_upd (known e9 (known_upd (known e8 (track7 z hz)))))⟩⟩
        · rw [hdropE]
          exact left'
        · rw [← I.told, rest_cons fm.whole]
          simp
        · simp only [List.length_append, List.length_cons]
          omega
        · exact ((((A7.mono e8).upd hp0 (e8 _ _ hp7)).mono e9).upd hp0 (e9 _ _ upd_same)).mono e10
        · intro z oz hz
          have nzp : z ≠ p := ne_of_none hz hpH
          refine e10 _ _ ?_
          rw [upd_ne nzp]
          refine e9 _ _ ?_
          rw [upd_ne nzp]
          exact e8 _ _ (E7 _ _ hz)
        · refine e10 _ _ ?_
          rw [upd_same, hnew]
    · -- the end
      rw [vI_len] at hb
      have hst2 : st = ns.length := by
        have := of_decide_eq_false hb
        omega
      have left := I.left
      rw [hst2, List.drop_length] at left
      have ecs := left.nil
      have et := I.told
      rw [ecs, rest_nil, List.append_nil] at et
      refine s_ret (ev_var rfl) fun H5 e5 => k H5 p ?_
      rw [← et]
      exact e5 _ _ (e4 _ _ I.out)
end
end Sw


namespace Sw
open PySem PySem.Spec PyProof.Rows L2
theorem all_mk {P : Program} {w : World} {K : PySem.W.Frag} {h : Heap} {mg : Str → Option Value} {fa CShip CRoster : Addr} {f1 f2 f3 f4 f5 f6 f7 f8 f9 f10 f11 f12 f13 f14 f15 f16 f17 f18 f19 f20 f21 f22 f23 f24 f25 f26 f27 f28 f29 f30 f31 f32 f33 f34 f35 f36 f37 f38 f39 f40 f41 f42 f43 f44 f45 f46 f47 f48 f49 f50 f51 f52 f53 : Addr} (X : K.In h) (G : h.Ns mainGlobals mg) (hfa : mg "answers" = some (.ref fa))
    {od1 an1 od2 an2 od3 an3 od4 an4 od5 an5 od6 an6 od7 an7 od8 an8 od9 an9 od10 an10 od11 an11 od12 an12 od13 an13 od14 an14 od15 an15 od16 an16 od17 an17 od18 an18 od19 an19 od20 an20 od21 an21 od22 an22 od23 an23 od24 an24 od25 an25 od26 an26 od27 an27 od28 an28 od29 an29 od30 an30 od31 an31 od32 an32 od33 an33 od34 an34 od35 an35 od36 an36 od37 an37 od38 an38 od39 an39 od40 an40 od41 an41 od42 an42 od43 an43 od44 an44 od45 an45 od46 an46 od47 an47 od48 an48 od49 an49 od50 an50 od51 an51 od52 an52 od53 an53 : Option Addr} {sl1 sl2 sl3 sl4 sl5 sl6 sl7 sl8 sl9 sl10 sl11 sl12 sl13 sl14 sl15 sl16 sl17 sl18 sl19 sl20 sl21 sl22 sl23 sl24 sl25 sl26 sl27 sl28 sl29 sl30 sl31 sl32 sl33 sl34 sl35 sl36 sl37 sl38 sl39 sl40 sl41 sl42 sl43 sl44 sl45 sl46 sl47 sl48 sl49 sl50 sl51 sl52 sl53 : Array (Option Value)}
    {oc1 kV1 dc1 pm1 cd1 ct1 oc2 kV2 dc2 pm2 cd2 ct2 oc3 kV3 dc3 pm3 cd3 ct3 oc4 kV4 dc4 pm4 cd4 ct4 oc5 kV5 dc5 pm5 cd5 ct5 oc6 kV6 dc6 pm6 cd6 ct6 oc7 kV7 dc7 pm7 cd7 ct7 oc8 kV8 dc8 pm8 cd8 ct8 oc9 kV9 dc9 pm9 cd9 ct9 oc10 kV10 dc10 pm10 cd10 ct10 oc11 kV11 dc11 pm11 cd11 ct11 oc12 kV12 dc12 pm12 cd12 ct12 oc13 kV13 dc13 pm13 cd13 ct13 oc14 kV14 dc14 pm14 cd14 ct14 oc15 kV15 dc15 pm15 cd15 ct15 oc16 kV16 dc16 pm16 cd16 ct16 oc17 kV17 dc17 pm17 cd17 ct17 oc18 kV18 dc18 pm18 cd18 ct18 oc19 kV19 dc19 pm19 cd19 ct19 oc20 kV20 dc20 pm20 cd20 ct20 oc21 kV21 dc21 pm21 cd21 ct21 oc22 kV22 dc22 pm22 cd22 ct22 oc23 kV23 dc23 pm23 cd23 ct23 oc24 kV24 dc24 pm24 cd24 ct24 oc25 kV25 dc25 pm25 cd25 ct25 oc26 kV26 dc26 pm26 cd26 ct26 oc27 kV27 dc27 pm27 cd27 ct27 oc28 kV28 dc28 pm28 cd28 ct28 oc29 kV29 dc29 pm29 cd29 ct29 oc30 kV30 dc30 pm30 cd30 ct30 oc31 kV31 dc31 pm31 cd31 ct31 oc32 kV32 dc32 pm32 cd32 ct32 oc33 kV33 dc33 pm33 cd33 ct33 oc34 kV34 dc34 pm34 cd34 ct34 oc35 kV35 dc35 pm35 cd35 ct35 oc36 kV36 dc36 pm36 cd36 ct36 oc37 kV37 dc37 pm37 cd37 ct37 oc38 kV38 dc38 pm38 cd38 ct38 oc39 kV39 dc39 pm39 cd39 ct39 oc40 kV40 dc40 pm40 cd40 ct40 oc41 kV41 dc41 pm41 cd41 ct41 oc42 kV42 dc42 pm42 cd42 ct42 oc43 kV43 dc43 pm43 cd43 ct43 oc44 kV44 dc44 pm44 cd44 ct44 oc45 kV45 dc45 pm45 cd45 ct45 oc46 kV46 dc46 pm46 cd46 ct46 oc47 kV47 dc47 pm47 cd47 ct47 oc48 kV48 dc48 pm48 cd48 ct48 oc49 kV49 dc49 pm49 cd49 ct49 oc50 kV50 dc50 pm50 cd50 ct50 oc51 kV51 dc51 pm51 cd51 ct51 oc52 kV52 dc52 pm52 cd52 ct52 oc53 kV53 dc53 pm53 cd53 ct53 : Value}
    {tk_DAY_HOURS tk_FEWEST_TEAMS tk_MOST_TEAMS tk_FEWEST_WATCHES tk_MOST_WATCHES tk_MOST_EXCHANGES tk_LAST_DAY tk_NOT_AS_TOLD tk_NOT_THERE tk_SAME_TEAM tk_EXCHANGED_ALREADY tk_ALL_EXCHANGES_STAND tk_NEVER tk_TWO_RUNNING tk_NO_SHIP tk_BEGIN tk_WHO tk_DAY tk_ROUND tk_EVEN tk_HOURS tk_RESTS tk_CUTS tk_KINDS tk_SWAP tk_UNDO tk_SWAPS : Tok}
    {tp_ARGUMENTS : Addr} {tt_ARGUMENTS_0 tt_ARGUMENTS_1 tt_ARGUMENTS_2 tt_ARGUMENTS_3 tt_ARGUMENTS_4 tt_ARGUMENTS_5 tt_ARGUMENTS_6 tt_ARGUMENTS_7 tt_ARGUMENTS_8 tt_ARGUMENTS_9 tt_ARGUMENTS_10 tt_ARGUMENTS_11 tt_ARGUMENTS_12 : Tok} {nn_ARGUMENTS : Nat} {od_ARGUMENTS : Option Addr} {sl_ARGUMENTS : Array (Option Value)}
    (aCShip : PySem.W.nsIn K mainGlobals "Ship" = some (some (.ref CShip)))
    (pgCShip : PySem.W.plainGet K CShip Str.empty = true)
    (hdCShip : PySem.W.hasDictIn K CShip = true)
    (poCShip : PySem.W.plainOver K CShip = true)
    (saCShip : PySem.W.findIn K (.ref CShip) "__setattr__" = some (some (.builtin "object.__setattr__")))
    (mkCShip : PySem.W.makesIn K CShip = true)
    (kcCShip : PySem.W.keepIn K (.ref CShip) = true)
    (nCShip_teams : PySem.W.findIn K (.ref CShip) "teams" = some none)
    (nCShip_first : PySem.W.findIn K (.ref CShip) "first" = some none)
    (nCShip_lengths : PySem.W.findIn K (.ref CShip) "lengths" = some none)
    (aCRoster : PySem.W.nsIn K mainGlobals "Roster" = some (some (.ref CRoster)))
    (pgCRoster : PySem.W.plainGet K CRoster Str.empty = true)
    (hdCRoster : PySem.W.hasDictIn K CRoster = true)
    (poCRoster : PySem.W.plainOver K CRoster = true)
    (saCRoster : PySem.W.findIn K (.ref CRoster) "__setattr__" = some (some (.builtin "object.__setattr__")))
    (mkCRoster : PySem.W.makesIn K CRoster = true)
    (kcCRoster : PySem.W.keepIn K (.ref CRoster) = true)
    (nCRoster_ship : PySem.W.findIn K (.ref CRoster) "ship" = some none)
    (nCRoster_exchanges : PySem.W.findIn K (.ref CRoster) "exchanges" = some none)
    (nCRoster_partners : PySem.W.findIn K (.ref CRoster) "partners" = some none)
    (a1 : PySem.W.nsIn K mainGlobals "may_be_teams" = some (some (.ref f1)))
    (l1 : K.lookup f1 = some ⟨oc1, od1, .func (PySem.W.fnOf "may_be_teams" "may_be_teams" (defArgs s_may_be_teams) (defBody s_may_be_teams) (defScope s_may_be_teams) .none kV1 dc1 pm1 an1 cd1 ct1), sl1⟩)
    (c1 : PySem.W.codeIn K cd1 "may_be_teams" = true)
    (k1 : PySem.W.keepIn K (.ref f1) = true)
    (a2 : PySem.W.nsIn K mainGlobals "may_be_watches" = some (some (.ref f2)))
    (l2 : K.lookup f2 = some ⟨oc2, od2, .func (PySem.W.fnOf "may_be_watches" "may_be_watches" (defArgs s_may_be_watches) (defBody s_may_be_watches) (defScope s_may_be_watches) .none kV2 dc2 pm2 an2 cd2 ct2), sl2⟩)
    (c2 : PySem.W.codeIn K cd2 "may_be_watches" = true)
    (k2 : PySem.W.keepIn K (.ref f2) = true)
    (a3 : PySem.W.nsIn K mainGlobals "may_be_ship" = some (some (.ref f3)))
    (l3 : K.lookup f3 = some ⟨oc3, od3, .func (PySem.W.fnOf "may_be_ship" "may_be_ship" (defArgs s_may_be_ship) (defBody s_may_be_ship) (defScope s_may_be_ship) .none kV3 dc3 pm3 an3 cd3 ct3), sl3⟩)
    (c3 : PySem.W.codeIn K cd3 "may_be_ship" = true)
    (k3 : PySem.W.keepIn K (.ref f3) = true)
    (a4 : PySem.W.nsIn K mainGlobals "days_of_round" = some (some (.ref f4)))
    (l4 : K.lookup f4 = some ⟨oc4, od4, .func (PySem.W.fnOf "days_of_round" "days_of_round" (defArgs s_days_of_round) (defBody s_days_of_round) (defScope s_days_of_round) .none kV4 dc4 pm4 an4 cd4 ct4), sl4⟩)
    (c4 : PySem.W.codeIn K cd4 "days_of_round" = true)
    (k4 : PySem.W.keepIn K (.ref f4) = true)
    (a5 : PySem.W.nsIn K mainGlobals "makes_fair_turn" = some (some (.ref f5)))
    (l5 : K.lookup f5 = some ⟨oc5, od5, .func (PySem.W.fnOf "makes_fair_turn" "makes_fair_turn" (defArgs s_makes_fair_turn) (defBody s_makes_fair_turn) (defScope s_makes_fair_turn) .none kV5 dc5 pm5 an5 cd5 ct5), sl5⟩)
    (c5 : PySem.W.codeIn K cd5 "makes_fair_turn" = true)
    (k5 : PySem.W.keepIn K (.ref f5) = true)
    (a6 : PySem.W.findIn K (.ref CShip) "__init__" = some (some (.ref f6)))
    (i6 : PySem.W.isFn K (.ref f6) = true)
    (l6 : K.lookup f6 = some ⟨oc6, od6, .func (PySem.W.fnOf "__init__" "Ship.__init__" (defArgs s_Ship_init) (defBody s_Ship_init) (defScope s_Ship_init) .none kV6 dc6 pm6 an6 cd6 ct6), sl6⟩)
    (c6 : PySem.W.codeIn K cd6 "Ship.__init__" = true)
    (k6 : PySem.W.keepIn K (.ref f6) = true)
    (a7 : PySem.W.findIn K (.ref CShip) "watches" = some (some (.ref f7)))
    (i7 : PySem.W.isFn K (.ref f7) = true)
    (l7 : K.lookup f7 = some ⟨oc7, od7, .func (PySem.W.fnOf "watches" "Ship.watches" (defArgs s_Ship_watches) (defBody s_Ship_watches) (defScope s_Ship_watches) .none kV7 dc7 pm7 an7 cd7 ct7), sl7⟩)
    (c7 : PySem.W.codeIn K cd7 "Ship.watches" = true)
    (k7 : PySem.W.keepIn K (.ref f7) = true)
    (a8 : PySem.W.findIn K (.ref CShip) "has_team" = some (some (.ref f8)))
    (i8 : PySem.W.isFn K (.ref f8) = true)
    (l8 : K.lookup f8 = some ⟨oc8, od8, .func (PySem.W.fnOf "has_team" "Ship.has_team" (defArgs s_Ship_has_team) (defBody s_Ship_has_team) (defScope s_Ship_has_team) .none kV8 dc8 pm8 an8 cd8 ct8), sl8⟩)
    (c8 : PySem.W.codeIn K cd8 "Ship.has_team" = true)
    (k8 : PySem.W.keepIn K (.ref f8) = true)
    (a9 : PySem.W.findIn K (.ref CShip) "has_watch" = some (some (.ref f9)))
    (i9 : PySem.W.isFn K (.ref f9) = true)
    (l9 : K.lookup f9 = some ⟨oc9, od9, .func (PySem.W.fnOf "has_watch" "Ship.has_watch" (defArgs s_Ship_has_watch) (defBody s_Ship_has_watch) (defScope s_Ship_has_watch) .none kV9 dc9 pm9 an9 cd9 ct9), sl9⟩)
    (c9 : PySem.W.codeIn K cd9 "Ship.has_watch" = true)
    (k9 : PySem.W.keepIn K (.ref f9) = true)
    (a10 : PySem.W.findIn K (.ref CShip) "place_of" = some (some (.ref f10)))
    (i10 : PySem.W.isFn K (.ref f10) = true)
    (l10 : K.lookup f10 = some ⟨oc10, od10, .func (PySem.W.fnOf "place_of" "Ship.place_of" (defArgs s_Ship_place_of) (defBody s_Ship_place_of) (defScope s_Ship_place_of) .none kV10 dc10 pm10 an10 cd10 ct10), sl10⟩)
    (c10 : PySem.W.codeIn K cd10 "Ship.place_of" = true)
    (k10 : PySem.W.keepIn K (.ref f10) = true)
    (a11 : PySem.W.findIn K (.ref CShip) "day_and_watch" = some (some (.ref f11)))
    (i11 : PySem.W.isFn K (.ref f11) = true)
    (l11 : K.lookup f11 = some ⟨oc11, od11, .func (PySem.W.fnOf "day_and_watch" "Ship.day_and_watch" (defArgs s_Ship_day_and_watch) (defBody s_Ship_day_and_watch) (defScope s_Ship_day_and_watch) .none kV11 dc11 pm11 an11 cd11 ct11), sl11⟩)
    (c11 : PySem.W.codeIn K cd11 "Ship.day_and_watch" = true)
    (k11 : PySem.W.keepIn K (.ref f11) = true)
    (a12 : PySem.W.findIn K (.ref CShip) "length_at" = some (some (.ref f12)))
    (i12 : PySem.W.isFn K (.ref f12) = true)
    (l12 : K.lookup f12 = some ⟨oc12, od12, .func (PySem.W.fnOf "length_at" "Ship.length_at" (defArgs s_Ship_length_at) (defBody s_Ship_length_at) (defScope s_Ship_length_at) .none kV12 dc12 pm12 an12 cd12 ct12), sl12⟩)
    (c12 : PySem.W.codeIn K cd12 "Ship.length_at" = true)
    (k12 : PySem.W.keepIn K (.ref f12) = true)
    (a13 : PySem.W.findIn K (.ref CShip) "turn_at" = some (some (.ref f13)))
    (i13 : PySem.W.isFn K (.ref f13) = true)
    (l13 : K.lookup f13 = some ⟨oc13, od13, .func (PySem.W.fnOf "turn_at" "Ship.turn_at" (defArgs s_Ship_turn_at) (defBody s_Ship_turn_at) (defScope s_Ship_turn_at) .none kV13 dc13 pm13 an13 cd13 ct13), sl13⟩)
    (c13 : PySem.W.codeIn K cd13 "Ship.turn_at" = true)
    (k13 : PySem.W.keepIn K (.ref f13) = true)
    (a14 : PySem.W.findIn K (.ref CShip) "round_days" = some (some (.ref f14)))
    (i14 : PySem.W.isFn K (.ref f14) = true)
    (l14 : K.lookup f14 = some ⟨oc14, od14, .func (PySem.W.fnOf "round_days" "Ship.round_days" (defArgs s_Ship_round_days) (defBody s_Ship_round_days) (defScope s_Ship_round_days) .none kV14 dc14 pm14 an14 cd14 ct14), sl14⟩)
    (c14 : PySem.W.codeIn K cd14 "Ship.round_days" = true)
    (k14 : PySem.W.keepIn K (.ref f14) = true)
    (a15 : PySem.W.findIn K (.ref CShip) "is_fair" = some (some (.ref f15)))
    (i15 : PySem.W.isFn K (.ref f15) = true)
    (l15 : K.lookup f15 = some ⟨oc15, od15, .func (PySem.W.fnOf "is_fair" "Ship.is_fair" (defArgs s_Ship_is_fair) (defBody s_Ship_is_fair) (defScope s_Ship_is_fair) .none kV15 dc15 pm15 an15 cd15 ct15), sl15⟩)
    (c15 : PySem.W.codeIn K cd15 "Ship.is_fair" = true)
    (k15 : PySem.W.keepIn K (.ref f15) = true)
    (a16 : PySem.W.findIn K (.ref CShip) "places_in_round" = some (some (.ref f16)))
    (i16 : PySem.W.isFn K (.ref f16) = true)
    (l16 : K.lookup f16 = some ⟨oc16, od16, .func (PySem.W.fnOf "places_in_round" "Ship.places_in_round" (defArgs s_Ship_places_in_round) (defBody s_Ship_places_in_round) (defScope s_Ship_places_in_round) .none kV16 dc16 pm16 an16 cd16 ct16), sl16⟩)
    (c16 : PySem.W.codeIn K cd16 "Ship.places_in_round" = true)
    (k16 : PySem.W.keepIn K (.ref f16) = true)
    (a17 : PySem.W.findIn K (.ref CShip) "hours_in_round" = some (some (.ref f17)))
    (i17 : PySem.W.isFn K (.ref f17) = true)
    (l17 : K.lookup f17 = some ⟨oc17, od17, .func (PySem.W.fnOf "hours_in_round" "Ship.hours_in_round" (defArgs s_Ship_hours_in_round) (defBody s_Ship_hours_in_round) (defScope s_Ship_hours_in_round) .none kV17 dc17 pm17 an17 cd17 ct17), sl17⟩)
    (c17 : PySem.W.codeIn K cd17 "Ship.hours_in_round" = true)
    (k17 : PySem.W.keepIn K (.ref f17) = true)
    (a18 : PySem.W.findIn K (.ref CShip) "rest_behind" = some (some (.ref f18)))
    (i18 : PySem.W.isFn K (.ref f18) = true)
    (l18 : K.lookup f18 = some ⟨oc18, od18, .func (PySem.W.fnOf "rest_behind" "Ship.rest_behind" (defArgs s_Ship_rest_behind) (defBody s_Ship_rest_behind) (defScope s_Ship_rest_behind) .none kV18 dc18 pm18 an18 cd18 ct18), sl18⟩)
    (c18 : PySem.W.codeIn K cd18 "Ship.rest_behind" = true)
    (k18 : PySem.W.keepIn K (.ref f18) = true)
    (a19 : PySem.W.findIn K (.ref CShip) "rests_of" = some (some (.ref f19)))
    (i19 : PySem.W.isFn K (.ref f19) = true)
    (l19 : K.lookup f19 = some ⟨oc19, od19, .func (PySem.W.fnOf "rests_of" "Ship.rests_of" (defArgs s_Ship_rests_of) (defBody s_Ship_rests_of) (defScope s_Ship_rests_of) .none kV19 dc19 pm19 an19 cd19 ct19), sl19⟩)
    (c19 : PySem.W.codeIn K cd19 "Ship.rests_of" = true)
    (k19 : PySem.W.keepIn K (.ref f19) = true)
    (a20 : PySem.W.findIn K (.ref CShip) "day_it_comes" = some (some (.ref f20)))
    (i20 : PySem.W.isFn K (.ref f20) = true)
    (l20 : K.lookup f20 = some ⟨oc20, od20, .func (PySem.W.fnOf "day_it_comes" "Ship.day_it_comes" (defArgs s_Ship_day_it_comes) (defBody s_Ship_day_it_comes) (defScope s_Ship_day_it_comes) .none kV20 dc20 pm20 an20 cd20 ct20), sl20⟩)
    (c20 : PySem.W.codeIn K cd20 "Ship.day_it_comes" = true)
    (k20 : PySem.W.keepIn K (.ref f20) = true)
    (a21 : PySem.W.nsIn K mainGlobals "ways_with_one_more" = some (some (.ref f21)))
    (l21 : K.lookup f21 = some ⟨oc21, od21, .func (PySem.W.fnOf "ways_with_one_more" "ways_with_one_more" (defArgs s_ways_with_one_more) (defBody s_ways_with_one_more) (defScope s_ways_with_one_more) .none kV21 dc21 pm21 an21 cd21 ct21), sl21⟩)
    (c21 : PySem.W.codeIn K cd21 "ways_with_one_more" = true)
    (k21 : PySem.W.keepIn K (.ref f21) = true)
    (a22 : PySem.W.nsIn K mainGlobals "count_of_cuts" = some (some (.ref f22)))
    (l22 : K.lookup f22 = some ⟨oc22, od22, .func (PySem.W.fnOf "count_of_cuts" "count_of_cuts" (defArgs s_count_of_cuts) (defBody s_count_of_cuts) (defScope s_count_of_cuts) .none kV22 dc22 pm22 an22 cd22 ct22), sl22⟩)
    (c22 : PySem.W.codeIn K cd22 "count_of_cuts" = true)
    (k22 : PySem.W.keepIn K (.ref f22) = true)
    (a23 : PySem.W.nsIn K mainGlobals "first_cut" = some (some (.ref f23)))
    (l23 : K.lookup f23 = some ⟨oc23, od23, .func (PySem.W.fnOf "first_cut" "first_cut" (defArgs s_first_cut) (defBody s_first_cut) (defScope s_first_cut) .none kV23 dc23 pm23 an23 cd23 ct23), sl23⟩)
    (c23 : PySem.W.codeIn K cd23 "first_cut" = true)
    (k23 : PySem.W.keepIn K (.ref f23) = true)
    (a24 : PySem.W.nsIn K mainGlobals "fair_kinds" = some (some (.ref f24)))
    (l24 : K.lookup f24 = some ⟨oc24, od24, .func (PySem.W.fnOf "fair_kinds" "fair_kinds" (defArgs s_fair_kinds) (defBody s_fair_kinds) (defScope s_fair_kinds) .none kV24 dc24 pm24 an24 cd24 ct24), sl24⟩)
    (c24 : PySem.W.codeIn K cd24 "fair_kinds" = true)
    (k24 : PySem.W.keepIn K (.ref f24) = true)
    (a25 : PySem.W.nsIn K mainGlobals "partners_of" = some (some (.ref f25)))
    (l25 : K.lookup f25 = some ⟨oc25, od25, .func (PySem.W.fnOf "partners_of" "partners_of" (defArgs s_partners_of) (defBody s_partners_of) (defScope s_partners_of) .none kV25 dc25 pm25 an25 cd25 ct25), sl25⟩)
    (c25 : PySem.W.codeIn K cd25 "partners_of" = true)
    (k25 : PySem.W.keepIn K (.ref f25) = true)
    (a26 : PySem.W.findIn K (.ref CRoster) "__init__" = some (some (.ref f26)))
    (i26 : PySem.W.isFn K (.ref f26) = true)
    (l26 : K.lookup f26 = some ⟨oc26, od26, .func (PySem.W.fnOf "__init__" "Roster.__init__" (defArgs s_Roster_init) (defBody s_Roster_init) (defScope s_Roster_init) .none kV26 dc26 pm26 an26 cd26 ct26), sl26⟩)
    (c26 : PySem.W.codeIn K cd26 "Roster.__init__" = true)
    (k26 : PySem.W.keepIn K (.ref f26) = true)
    (a27 : PySem.W.findIn K (.ref CRoster) "take" = some (some (.ref f27)))
    (i27 : PySem.W.isFn K (.ref f27) = true)
    (l27 : K.lookup f27 = some ⟨oc27, od27, .func (PySem.W.fnOf "take" "Roster.take" (defArgs s_Roster_take) (defBody s_Roster_take) (defScope s_Roster_take) .none kV27 dc27 pm27 an27 cd27 ct27), sl27⟩)
    (c27 : PySem.W.codeIn K cd27 "Roster.take" = true)
    (k27 : PySem.W.keepIn K (.ref f27) = true)
    (a28 : PySem.W.findIn K (.ref CRoster) "is_full" = some (some (.ref f28)))
    (i28 : PySem.W.isFn K (.ref f28) = true)
    (l28 : K.lookup f28 = some ⟨oc28, od28, .func (PySem.W.fnOf "is_full" "Roster.is_full" (defArgs s_Roster_is_full) (defBody s_Roster_is_full) (defScope s_Roster_is_full) .none kV28 dc28 pm28 an28 cd28 ct28), sl28⟩)
    (c28 : PySem.W.codeIn K cd28 "Roster.is_full" = true)
    (k28 : PySem.W.keepIn K (.ref f28) = true)
    (a29 : PySem.W.findIn K (.ref CRoster) "is_exchanged" = some (some (.ref f29)))
    (i29 : PySem.W.isFn K (.ref f29) = true)
    (l29 : K.lookup f29 = some ⟨oc29, od29, .func (PySem.W.fnOf "is_exchanged" "Roster.is_exchanged" (defArgs s_Roster_is_exchanged) (defBody s_Roster_is_exchanged) (defScope s_Roster_is_exchanged) .none kV29 dc29 pm29 an29 cd29 ct29), sl29⟩)
    (c29 : PySem.W.codeIn K cd29 "Roster.is_exchanged" = true)
    (k29 : PySem.W.keepIn K (.ref f29) = true)
    (a30 : PySem.W.findIn K (.ref CRoster) "team_at" = some (some (.ref f30)))
    (i30 : PySem.W.isFn K (.ref f30) = true)
    (l30 : K.lookup f30 = some ⟨oc30, od30, .func (PySem.W.fnOf "team_at" "Roster.team_at" (defArgs s_Roster_team_at) (defBody s_Roster_team_at) (defScope s_Roster_team_at) .none kV30 dc30 pm30 an30 cd30 ct30), sl30⟩)
    (c30 : PySem.W.codeIn K cd30 "Roster.team_at" = true)
    (k30 : PySem.W.keepIn K (.ref f30) = true)
    (a31 : PySem.W.findIn K (.ref CRoster) "teams_on" = some (some (.ref f31)))
    (i31 : PySem.W.isFn K (.ref f31) = true)
    (l31 : K.lookup f31 = some ⟨oc31, od31, .func (PySem.W.fnOf "teams_on" "Roster.teams_on" (defArgs s_Roster_teams_on) (defBody s_Roster_teams_on) (defScope s_Roster_teams_on) .none kV31 dc31 pm31 an31 cd31 ct31), sl31⟩)
    (c31 : PySem.W.codeIn K cd31 "Roster.teams_on" = true)
    (k31 : PySem.W.keepIn K (.ref f31) = true)
    (a32 : PySem.W.findIn K (.ref CRoster) "hours_between" = some (some (.ref f32)))
    (i32 : PySem.W.isFn K (.ref f32) = true)
    (l32 : K.lookup f32 = some ⟨oc32, od32, .func (PySem.W.fnOf "hours_between" "Roster.hours_between" (defArgs s_Roster_hours_between) (defBody s_Roster_hours_between) (defScope s_Roster_hours_between) .none kV32 dc32 pm32 an32 cd32 ct32), sl32⟩)
    (c32 : PySem.W.codeIn K cd32 "Roster.hours_between" = true)
    (k32 : PySem.W.keepIn K (.ref f32) = true)
    (a33 : PySem.W.findIn K (.ref CRoster) "stands_twice_at" = some (some (.ref f33)))
    (i33 : PySem.W.isFn K (.ref f33) = true)
    (l33 : K.lookup f33 = some ⟨oc33, od33, .func (PySem.W.fnOf "stands_twice_at" "Roster.stands_twice_at" (defArgs s_Roster_stands_twice_at) (defBody s_Roster_stands_twice_at) (defScope s_Roster_stands_twice_at) .none kV33 dc33 pm33 an33 cd33 ct33), sl33⟩)
    (c33 : PySem.W.codeIn K cd33 "Roster.stands_twice_at" = true)
    (k33 : PySem.W.keepIn K (.ref f33) = true)
    (a34 : PySem.W.findIn K (.ref CRoster) "somebody_stands_twice" = some (some (.ref f34)))
    (i34 : PySem.W.isFn K (.ref f34) = true)
    (l34 : K.lookup f34 = some ⟨oc34, od34, .func (PySem.W.fnOf "somebody_stands_twice" "Roster.somebody_stands_twice" (defArgs s_Roster_somebody_stands_twice) (defBody s_Roster_somebody_stands_twice) (defScope s_Roster_somebody_stands_twice) .none kV34 dc34 pm34 an34 cd34 ct34), sl34⟩)
    (c34 : PySem.W.codeIn K cd34 "Roster.somebody_stands_twice" = true)
    (k34 : PySem.W.keepIn K (.ref f34) = true)
    (a35 : PySem.W.nsIn K mainGlobals "answer_who" = some (some (.ref f35)))
    (l35 : K.lookup f35 = some ⟨oc35, od35, .func (PySem.W.fnOf "answer_who" "answer_who" (defArgs s_answer_who) (defBody s_answer_who) (defScope s_answer_who) .none kV35 dc35 pm35 an35 cd35 ct35), sl35⟩)
    (c35 : PySem.W.codeIn K cd35 "answer_who" = true)
    (k35 : PySem.W.keepIn K (.ref f35) = true)
    (a36 : PySem.W.nsIn K mainGlobals "answer_day" = some (some (.ref f36)))
    (l36 : K.lookup f36 = some ⟨oc36, od36, .func (PySem.W.fnOf "answer_day" "answer_day" (defArgs s_answer_day) (defBody s_answer_day) (defScope s_answer_day) .none kV36 dc36 pm36 an36 cd36 ct36), sl36⟩)
    (c36 : PySem.W.codeIn K cd36 "answer_day" = true)
    (k36 : PySem.W.keepIn K (.ref f36) = true)
    (a37 : PySem.W.nsIn K mainGlobals "answer_round" = some (some (.ref f37)))
    (l37 : K.lookup f37 = some ⟨oc37, od37, .func (PySem.W.fnOf "answer_round" "answer_round" (defArgs s_answer_round) (defBody s_answer_round) (defScope s_answer_round) .none kV37 dc37 pm37 an37 cd37 ct37), sl37⟩)
    (c37 : PySem.W.codeIn K cd37 "answer_round" = true)
    (k37 : PySem.W.keepIn K (.ref f37) = true)
    (a38 : PySem.W.nsIn K mainGlobals "answer_even" = some (some (.ref f38)))
    (l38 : K.lookup f38 = some ⟨oc38, od38, .func (PySem.W.fnOf "answer_even" "answer_even" (defArgs s_answer_even) (defBody s_answer_even) (defScope s_answer_even) .none kV38 dc38 pm38 an38 cd38 ct38), sl38⟩)
    (c38 : PySem.W.codeIn K cd38 "answer_even" = true)
    (k38 : PySem.W.keepIn K (.ref f38) = true)
    (a39 : PySem.W.nsIn K mainGlobals "answer_hours" = some (some (.ref f39)))
    (l39 : K.lookup f39 = some ⟨oc39, od39, .func (PySem.W.fnOf "answer_hours" "answer_hours" (defArgs s_answer_hours) (defBody s_answer_hours) (defScope s_answer_hours) .none kV39 dc39 pm39 an39 cd39 ct39), sl39⟩)
    (c39 : PySem.W.codeIn K cd39 "answer_hours" = true)
    (k39 : PySem.W.keepIn K (.ref f39) = true)
    (a40 : PySem.W.nsIn K mainGlobals "answer_rests" = some (some (.ref f40)))
    (l40 : K.lookup f40 = some ⟨oc40, od40, .func (PySem.W.fnOf "answer_rests" "answer_rests" (defArgs s_answer_rests) (defBody s_answer_rests) (defScope s_answer_rests) .none kV40 dc40 pm40 an40 cd40 ct40), sl40⟩)
    (c40 : PySem.W.codeIn K cd40 "answer_rests" = true)
    (k40 : PySem.W.keepIn K (.ref f40) = true)
    (a41 : PySem.W.nsIn K mainGlobals "is_watch_of" = some (some (.ref f41)))
    (l41 : K.lookup f41 = some ⟨oc41, od41, .func (PySem.W.fnOf "is_watch_of" "is_watch_of" (defArgs s_is_watch_of) (defBody s_is_watch_of) (defScope s_is_watch_of) .none kV41 dc41 pm41 an41 cd41 ct41), sl41⟩)
    (c41 : PySem.W.codeIn K cd41 "is_watch_of" = true)
    (k41 : PySem.W.keepIn K (.ref f41) = true)
    (a42 : PySem.W.nsIn K mainGlobals "answer_comes" = some (some (.ref f42)))
    (l42 : K.lookup f42 = some ⟨oc42, od42, .func (PySem.W.fnOf "answer_comes" "answer_comes" (defArgs s_answer_comes) (defBody s_answer_comes) (defScope s_answer_comes) .none kV42 dc42 pm42 an42 cd42 ct42), sl42⟩)
    (c42 : PySem.W.codeIn K cd42 "answer_comes" = true)
    (k42 : PySem.W.keepIn K (.ref f42) = true)
    (a43 : PySem.W.nsIn K mainGlobals "answer_cuts" = some (some (.ref f43)))
    (l43 : K.lookup f43 = some ⟨oc43, od43, .func (PySem.W.fnOf "answer_cuts" "answer_cuts" (defArgs s_answer_cuts) (defBody s_answer_cuts) (defScope s_answer_cuts) .none kV43 dc43 pm43 an43 cd43 ct43), sl43⟩)
    (c43 : PySem.W.codeIn K cd43 "answer_cuts" = true)
    (k43 : PySem.W.keepIn K (.ref f43) = true)
    (a44 : PySem.W.nsIn K mainGlobals "answer_kinds" = some (some (.ref f44)))
    (l44 : K.lookup f44 = some ⟨oc44, od44, .func (PySem.W.fnOf "answer_kinds" "answer_kinds" (defArgs s_answer_kinds) (defBody s_answer_kinds) (defScope s_answer_kinds) .none kV44 dc44 pm44 an44 cd44 ct44), sl44⟩)
    (c44 : PySem.W.codeIn K cd44 "answer_kinds" = true)
    (k44 : PySem.W.keepIn K (.ref f44) = true)
    (a45 : PySem.W.nsIn K mainGlobals "answer_swap" = some (some (.ref f45)))
    (l45 : K.lookup f45 = some ⟨oc45, od45, .func (PySem.W.fnOf "answer_swap" "answer_swap" (defArgs s_answer_swap) (defBody s_answer_swap) (defScope s_answer_swap) .none kV45 dc45 pm45 an45 cd45 ct45), sl45⟩)
    (c45 : PySem.W.codeIn K cd45 "answer_swap" = true)
    (k45 : PySem.W.keepIn K (.ref f45) = true)
    (a46 : PySem.W.nsIn K mainGlobals "answer_undo" = some (some (.ref f46)))
    (l46 : K.lookup f46 = some ⟨oc46, od46, .func (PySem.W.fnOf "answer_undo" "answer_undo" (defArgs s_answer_undo) (defBody s_answer_undo) (defScope s_answer_undo) .none kV46 dc46 pm46 an46 cd46 ct46), sl46⟩)
    (c46 : PySem.W.codeIn K cd46 "answer_undo" = true)
    (k46 : PySem.W.keepIn K (.ref f46) = true)
    (a47 : PySem.W.nsIn K mainGlobals "answer_change" = some (some (.ref f47)))
    (l47 : K.lookup f47 = some ⟨oc47, od47, .func (PySem.W.fnOf "answer_change" "answer_change" (defArgs s_answer_change) (defBody s_answer_change) (defScope s_answer_change) .none kV47 dc47 pm47 an47 cd47 ct47), sl47⟩)
    (c47 : PySem.W.codeIn K cd47 "answer_change" = true)
    (k47 : PySem.W.keepIn K (.ref f47) = true)
    (a48 : PySem.W.nsIn K mainGlobals "answer_swaps" = some (some (.ref f48)))
    (l48 : K.lookup f48 = some ⟨oc48, od48, .func (PySem.W.fnOf "answer_swaps" "answer_swaps" (defArgs s_answer_swaps) (defBody s_answer_swaps) (defScope s_answer_swaps) .none kV48 dc48 pm48 an48 cd48 ct48), sl48⟩)
    (c48 : PySem.W.codeIn K cd48 "answer_swaps" = true)
    (k48 : PySem.W.keepIn K (.ref f48) = true)
    (a49 : PySem.W.nsIn K mainGlobals "answer_of" = some (some (.ref f49)))
    (l49 : K.lookup f49 = some ⟨oc49, od49, .func (PySem.W.fnOf "answer_of" "answer_of" (defArgs s_answer_of) (defBody s_answer_of) (defScope s_answer_of) .none kV49 dc49 pm49 an49 cd49 ct49), sl49⟩)
    (c49 : PySem.W.codeIn K cd49 "answer_of" = true)
    (k49 : PySem.W.keepIn K (.ref f49) = true)
    (a50 : PySem.W.nsIn K mainGlobals "answer_of_turn" = some (some (.ref f50)))
    (l50 : K.lookup f50 = some ⟨oc50, od50, .func (PySem.W.fnOf "answer_of_turn" "answer_of_turn" (defArgs s_answer_of_turn) (defBody s_answer_of_turn) (defScope s_answer_of_turn) .none kV50 dc50 pm50 an50 cd50 ct50), sl50⟩)
    (c50 : PySem.W.codeIn K cd50 "answer_of_turn" = true)
    (k50 : PySem.W.keepIn K (.ref f50) = true)
    (a51 : PySem.W.nsIn K mainGlobals "end_of_call" = some (some (.ref f51)))
    (l51 : K.lookup f51 = some ⟨oc51, od51, .func (PySem.W.fnOf "end_of_call" "end_of_call" (defArgs s_end_of_call) (defBody s_end_of_call) (defScope s_end_of_call) .none kV51 dc51 pm51 an51 cd51 ct51), sl51⟩)
    (c51 : PySem.W.codeIn K cd51 "end_of_call" = true)
    (k51 : PySem.W.keepIn K (.ref f51) = true)
    (a52 : PySem.W.nsIn K mainGlobals "roster_of" = some (some (.ref f52)))
    (l52 : K.lookup f52 = some ⟨oc52, od52, .func (PySem.W.fnOf "roster_of" "roster_of" (defArgs s_roster_of) (defBody s_roster_of) (defScope s_roster_of) .none kV52 dc52 pm52 an52 cd52 ct52), sl52⟩)
    (c52 : PySem.W.codeIn K cd52 "roster_of" = true)
    (k52 : PySem.W.keepIn K (.ref f52) = true)
    (a53 : PySem.W.nsIn K mainGlobals "answers" = some (some (.ref f53)))
    (l53 : K.lookup f53 = some ⟨oc53, od53, .func (PySem.W.fnOf "answers" "answers" (defArgs s_answers) (defBody s_answers) (defScope s_answers) .none kV53 dc53 pm53 an53 cd53 ct53), sl53⟩)
    (c53 : PySem.W.codeIn K cd53 "answers" = true)
    (k53 : PySem.W.keepIn K (.ref f53) = true)
    (z_any : PySem.W.nsIn K mainGlobals "any" = some none)
    (z_len : PySem.W.nsIn K mainGlobals "len" = some none)
    (z_list : PySem.W.nsIn K mainGlobals "list" = some none)
    (z_max : PySem.W.nsIn K mainGlobals "max" = some none)
    (z_min : PySem.W.nsIn K mainGlobals "min" = some none)
    (z_range : PySem.W.nsIn K mainGlobals "range" = some none)
    (z_sum : PySem.W.nsIn K mainGlobals "sum" = some none)
    (q_DAY_HOURS : PySem.W.nsIn K mainGlobals "DAY_HOURS" = some (some (.int 24 tk_DAY_HOURS)))
    (q_FEWEST_TEAMS : PySem.W.nsIn K mainGlobals "FEWEST_TEAMS" = some (some (.int 2 tk_FEWEST_TEAMS)))
    (q_MOST_TEAMS : PySem.W.nsIn K mainGlobals "MOST_TEAMS" = some (some (.int 5 tk_MOST_TEAMS)))
    (q_FEWEST_WATCHES : PySem.W.nsIn K mainGlobals "FEWEST_WATCHES" = some (some (.int 2 tk_FEWEST_WATCHES)))
    (q_MOST_WATCHES : PySem.W.nsIn K mainGlobals "MOST_WATCHES" = some (some (.int 8 tk_MOST_WATCHES)))
    (q_MOST_EXCHANGES : PySem.W.nsIn K mainGlobals "MOST_EXCHANGES" = some (some (.int 6 tk_MOST_EXCHANGES)))
    (q_LAST_DAY : PySem.W.nsIn K mainGlobals "LAST_DAY" = some (some (.int 200 tk_LAST_DAY)))
    (q_NOT_AS_TOLD : PySem.W.nsIn K mainGlobals "NOT_AS_TOLD" = some (some (.int (-1) tk_NOT_AS_TOLD)))
    (q_NOT_THERE : PySem.W.nsIn K mainGlobals "NOT_THERE" = some (some (.int (-2) tk_NOT_THERE)))
    (q_SAME_TEAM : PySem.W.nsIn K mainGlobals "SAME_TEAM" = some (some (.int (-3) tk_SAME_TEAM)))
    (q_EXCHANGED_ALREADY : PySem.W.nsIn K mainGlobals "EXCHANGED_ALREADY" = some (some (.int (-4) tk_EXCHANGED_ALREADY)))
    (q_ALL_EXCHANGES_STAND : PySem.W.nsIn K mainGlobals "ALL_EXCHANGES_STAND" = some (some (.int (-5) tk_ALL_EXCHANGES_STAND)))
    (q_NEVER : PySem.W.nsIn K mainGlobals "NEVER" = some (some (.int (-6) tk_NEVER)))
    (q_TWO_RUNNING : PySem.W.nsIn K mainGlobals "TWO_RUNNING" = some (some (.int (-7) tk_TWO_RUNNING)))
    (q_NO_SHIP : PySem.W.nsIn K mainGlobals "NO_SHIP" = some (some (.int (-9) tk_NO_SHIP)))
    (q_BEGIN : PySem.W.nsIn K mainGlobals "BEGIN" = some (some (.int 0 tk_BEGIN)))
    (q_WHO : PySem.W.nsIn K mainGlobals "WHO" = some (some (.int 1 tk_WHO)))
    (q_DAY : PySem.W.nsIn K mainGlobals "DAY" = some (some (.int 2 tk_DAY)))
    (q_ROUND : PySem.W.nsIn K mainGlobals "ROUND" = some (some (.int 3 tk_ROUND)))
    (q_EVEN : PySem.W.nsIn K mainGlobals "EVEN" = some (some (.int 4 tk_EVEN)))
    (q_HOURS : PySem.W.nsIn K mainGlobals "HOURS" = some (some (.int 5 tk_HOURS)))
    (q_RESTS : PySem.W.nsIn K mainGlobals "RESTS" = some (some (.int 6 tk_RESTS)))
    (q_CUTS : PySem.W.nsIn K mainGlobals "CUTS" = some (some (.int 8 tk_CUTS)))
    (q_KINDS : PySem.W.nsIn K mainGlobals "KINDS" = some (some (.int 9 tk_KINDS)))
    (q_SWAP : PySem.W.nsIn K mainGlobals "SWAP" = some (some (.int 10 tk_SWAP)))
    (q_UNDO : PySem.W.nsIn K mainGlobals "UNDO" = some (some (.int 11 tk_UNDO)))
    (q_SWAPS : PySem.W.nsIn K mainGlobals "SWAPS" = some (some (.int 12 tk_SWAPS)))
    (q_ARGUMENTS : PySem.W.nsIn K mainGlobals "ARGUMENTS" = some (some (.ref tp_ARGUMENTS)))
    (o_ARGUMENTS : K.lookup tp_ARGUMENTS = some ⟨.type "tuple", od_ARGUMENTS, .seq #[Value.int 3 tt_ARGUMENTS_0, Value.int 2 tt_ARGUMENTS_1, Value.int 1 tt_ARGUMENTS_2, Value.int 0 tt_ARGUMENTS_3, Value.int 0 tt_ARGUMENTS_4, Value.int 3 tt_ARGUMENTS_5, Value.int 1 tt_ARGUMENTS_6, Value.int 3 tt_ARGUMENTS_7, Value.int 3 tt_ARGUMENTS_8, Value.int 1 tt_ARGUMENTS_9, Value.int 4 tt_ARGUMENTS_10, Value.int 1 tt_ARGUMENTS_11, Value.int 0 tt_ARGUMENTS_12] nn_ARGUMENTS, sl_ARGUMENTS⟩)
    : ∃ fd : FuncData, (∀ (s : Shared) (us : List Value), us.length = (["calls"] : List Str).length → BindsTo s fd ⟨us, []⟩ ((["calls"] : List Str).zip us)) ∧ ∀ base : Heap, K.In base → base.Ns mainGlobals mg → FnOk P w K mg base CX0 8 fa fd ["calls"] (spAns K) := by
  have e := hfa.symm.trans (PySem.W.mg_of X G a53)
  cases e
  have T : Txt K mg CShip CRoster := ⟨⟨pgCShip, hdCShip, poCShip, saCShip⟩,
    PySem.W.mg_of X G aCShip,
    nCShip_teams,
    nCShip_first,
    nCShip_lengths,
    ⟨pgCRoster, hdCRoster, poCRoster, saCRoster⟩,
    PySem.W.mg_of X G aCRoster,
    nCRoster_ship,
    nCRoster_exchanges,
    nCRoster_partners,
    PySem.W.mg_none_of X G z_any,
    PySem.W.mg_none_of X G z_len,
    PySem.W.mg_none_of X G z_list,
    PySem.W.mg_none_of X G z_max,
    PySem.W.mg_none_of X G z_min,
    PySem.W.mg_none_of X G z_range,
    PySem.W.mg_none_of X G z_sum,
    ⟨_, PySem.W.mg_of X G q_DAY_HOURS⟩,
    ⟨_, PySem.W.mg_of X G q_FEWEST_TEAMS⟩,
    ⟨_, PySem.W.mg_of X G q_MOST_TEAMS⟩,
    ⟨_, PySem.W.mg_of X G q_FEWEST_WATCHES⟩,
    ⟨_, PySem.W.mg_of X G q_MOST_WATCHES⟩,
    ⟨_, PySem.W.mg_of X G q_MOST_EXCHANGES⟩,
    ⟨_, PySem.W.mg_of X G q_LAST_DAY⟩,
    ⟨_, PySem.W.mg_of X G q_NOT_AS_TOLD⟩,
    ⟨_, PySem.W.mg_of X G q_NOT_THERE⟩,
    ⟨_, PySem.W.mg_of X G q_SAME_TEAM⟩,
    ⟨_, PySem.W.mg_of X G q_EXCHANGED_ALREADY⟩,
    ⟨_, PySem.W.mg_of X G q_ALL_EXCHANGES_STAND⟩,
    ⟨_, PySem.W.mg_of X G q_NEVER⟩,
    ⟨_, PySem.W.mg_of X G q_TWO_RUNNING⟩,
    ⟨_, PySem.W.mg_of X G q_NO_SHIP⟩,
    ⟨_, PySem.W.mg_of X G q_BEGIN⟩,
    ⟨_, PySem.W.mg_of X G q_WHO⟩,
    ⟨_, PySem.W.mg_of X G q_DAY⟩,
    ⟨_, PySem.W.mg_of X G q_ROUND⟩,
    ⟨_, PySem.W.mg_of X G q_EVEN⟩,
    ⟨_, PySem.W.mg_of X G q_HOURS⟩,
    ⟨_, PySem.W.mg_of X G q_RESTS⟩,
    ⟨_, PySem.W.mg_of X G q_CUTS⟩,
    ⟨_, PySem.W.mg_of X G q_KINDS⟩,
    ⟨_, PySem.W.mg_of X G q_SWAP⟩,
    ⟨_, PySem.W.mg_of X G q_UNDO⟩,
    ⟨_, PySem.W.mg_of X G q_SWAPS⟩,
    ⟨_, PySem.W.mg_of X G q_ARGUMENTS, fun H => Or.inr ⟨_, _, _, o_ARGUMENTS, rfl, rfl, (by show 13 ≤ sizeLine; decide), (show Vals _ _ from .cons ⟨_, rfl⟩ (.cons ⟨_, rfl⟩ (.cons ⟨_, rfl⟩ (.cons ⟨_, rfl⟩ (.cons ⟨_, rfl⟩ (.cons ⟨_, rfl⟩ (.cons ⟨_, rfl⟩ (.cons ⟨_, rfl⟩ (.cons ⟨_, rfl⟩ (.cons ⟨_, rfl⟩ (.cons ⟨_, rfl⟩ (.cons ⟨_, rfl⟩ (.cons ⟨_, rfl⟩ (.nil))))))))))))))⟩⟩⟩
  have F1 := fun_mk (st := s_may_be_teams) l1 c1 k1
  have b1 := F1.binds (ps := ["teams"]) fun _ _ _ _ _ _ us hl => match us, hl with | [_], _ => rfl
  have F2 := fun_mk (st := s_may_be_watches) l2 c2 k2
  have b2 := F2.binds (ps := ["watches"]) fun _ _ _ _ _ _ us hl => match us, hl with | [_], _ => rfl
  have F3 := fun_mk (st := s_may_be_ship) l3 c3 k3
  have b3 := F3.binds (ps := ["teams", "first", "lengths"]) fun _ _ _ _ _ _ us hl => match us, hl with | [_, _, _], _ => rfl
  have F4 := fun_mk (st := s_days_of_round) l4 c4 k4
  have b4 := F4.binds (ps := ["teams", "watches"]) fun _ _ _ _ _ _ us hl => match us, hl with | [_, _], _ => rfl
  have F5 := fun_mk (st := s_makes_fair_turn) l5 c5 k5
  have b5 := F5.binds (ps := ["teams", "watches"]) fun _ _ _ _ _ _ us hl => match us, hl with | [_, _], _ => rfl
  have F6 := fun_mk (st := s_Ship_init) l6 c6 k6
  have b6 := F6.binds (ps := ["self", "teams", "first", "lengths"]) fun _ _ _ _ _ _ us hl => match us, hl with | [_, _, _, _], _ => rfl
  have F7 := fun_mk (st := s_Ship_watches) l7 c7 k7
  have b7 := F7.binds (ps := ["self"]) fun _ _ _ _ _ _ us hl => match us, hl with | [_], _ => rfl
  have F8 := fun_mk (st := s_Ship_has_team) l8 c8 k8
  have b8 := F8.binds (ps := ["self", "team"]) fun _ _ _ _ _ _ us hl => match us, hl with | [_, _], _ => rfl
  have F9 := fun_mk (st := s_Ship_has_watch) l9 c9 k9
  have b9 := F9.binds (ps := ["self", "watch"]) fun _ _ _ _ _ _ us hl => match us, hl with | [_, _], _ => rfl
  have F10 := fun_mk (st := s_Ship_place_of) l10 c10 k10
  have b10 := F10.binds (ps := ["self", "day", "watch"]) fun _ _ _ _ _ _ us hl => match us, hl with | [_, _, _], _ => rfl
  have F11 := fun_mk (st := s_Ship_day_and_watch) l11 c11 k11
  have b11 := F11.binds (ps := ["self", "place"]) fun _ _ _ _ _ _ us hl => match us, hl with | [_, _], _ => rfl
  have F12 := fun_mk (st := s_Ship_length_at) l12 c12 k12
  have b12 := F12.binds (ps := ["self", "place"]) fun _ _ _ _ _ _ us hl => match us, hl with | [_, _], _ => rfl
  have F13 := fun_mk (st := s_Ship_turn_at) l13 c13 k13
  have b13 := F13.binds (ps := ["self", "place"]) fun _ _ _ _ _ _ us hl => match us, hl with | [_, _], _ => rfl
  have F14 := fun_mk (st := s_Ship_round_days) l14 c14 k14
  have b14 := F14.binds (ps := ["self"]) fun _ _ _ _ _ _ us hl => match us, hl with | [_], _ => rfl
  have F15 := fun_mk (st := s_Ship_is_fair) l15 c15 k15
  have b15 := F15.binds (ps := ["self"]) fun _ _ _ _ _ _ us hl => match us, hl with | [_], _ => rfl
  have F16 := fun_mk (st := s_Ship_places_in_round) l16 c16 k16
  have b16 := F16.binds (ps := ["self", "team"]) fun _ _ _ _ _ _ us hl => match us, hl with | [_, _], _ => rfl
  have F17 := fun_mk (st := s_Ship_hours_in_round) l17 c17 k17
  have b17 := F17.binds (ps := ["self", "team"]) fun _ _ _ _ _ _ us hl => match us, hl with | [_, _], _ => rfl
  have F18 := fun_mk (st := s_Ship_rest_behind) l18 c18 k18
  have b18 := F18.binds (ps := ["self", "place"]) fun _ _ _ _ _ _ us hl => match us, hl with | [_, _], _ => rfl
  have F19 := fun_mk (st := s_Ship_rests_of) l19 c19 k19
  have b19 := F19.binds (ps := ["self", "team"]) fun _ _ _ _ _ _ us hl => match us, hl with | [_, _], _ => rfl
  have F20 := fun_mk (st := s_Ship_day_it_comes) l20 c20 k20
  have b20 := F20.binds (ps := ["self", "team", "watch", "day"]) fun _ _ _ _ _ _ us hl => match us, hl with | [_, _, _, _], _ => rfl
  have F21 := fun_mk (st := s_ways_with_one_more) l21 c21 k21
  have b21 := F21.binds (ps := ["ways", "hours", "least", "most"]) fun _ _ _ _ _ _ us hl => match us, hl with | [_, _, _, _], _ => rfl
  have F22 := fun_mk (st := s_count_of_cuts) l22 c22 k22
  have b22 := F22.binds (ps := ["watches", "least", "most"]) fun _ _ _ _ _ _ us hl => match us, hl with | [_, _, _], _ => rfl
  have F23 := fun_mk (st := s_first_cut) l23 c23 k23
  have b23 := F23.binds (ps := ["watches", "least", "most"]) fun _ _ _ _ _ _ us hl => match us, hl with | [_, _, _], _ => rfl
  have F24 := fun_mk (st := s_fair_kinds) l24 c24 k24
  have b24 := F24.binds (ps := ["teams"]) fun _ _ _ _ _ _ us hl => match us, hl with | [_], _ => rfl
  have F25 := fun_mk (st := s_partners_of) l25 c25 k25
  have b25 := F25.binds (ps := ["exchanges"]) fun _ _ _ _ _ _ us hl => match us, hl with | [_], _ => rfl
  have F26 := fun_mk (st := s_Roster_init) l26 c26 k26
  have b26 := F26.binds (ps := ["self", "ship", "exchanges"]) fun _ _ _ _ _ _ us hl => match us, hl with | [_, _, _], _ => rfl
  have F27 := fun_mk (st := s_Roster_take) l27 c27 k27
  have b27 := F27.binds (ps := ["self", "exchanges"]) fun _ _ _ _ _ _ us hl => match us, hl with | [_, _], _ => rfl
  have F28 := fun_mk (st := s_Roster_is_full) l28 c28 k28
  have b28 := F28.binds (ps := ["self"]) fun _ _ _ _ _ _ us hl => match us, hl with | [_], _ => rfl
  have F29 := fun_mk (st := s_Roster_is_exchanged) l29 c29 k29
  have b29 := F29.binds (ps := ["self", "place"]) fun _ _ _ _ _ _ us hl => match us, hl with | [_, _], _ => rfl
  have F30 := fun_mk (st := s_Roster_team_at) l30 c30 k30
  have b30 := F30.binds (ps := ["self", "place"]) fun _ _ _ _ _ _ us hl => match us, hl with | [_, _], _ => rfl
  have F31 := fun_mk (st := s_Roster_teams_on) l31 c31 k31
  have b31 := F31.binds (ps := ["self", "day"]) fun _ _ _ _ _ _ us hl => match us, hl with | [_, _], _ => rfl
  have F32 := fun_mk (st := s_Roster_hours_between) l32 c32 k32
  have b32 := F32.binds (ps := ["self", "team", "begin_day", "end_day"]) fun _ _ _ _ _ _ us hl => match us, hl with | [_, _, _, _], _ => rfl
  have F33 := fun_mk (st := s_Roster_stands_twice_at) l33 c33 k33
  have b33 := F33.binds (ps := ["self", "place"]) fun _ _ _ _ _ _ us hl => match us, hl with | [_, _], _ => rfl
  have F34 := fun_mk (st := s_Roster_somebody_stands_twice) l34 c34 k34
  have b34 := F34.binds (ps := ["self"]) fun _ _ _ _ _ _ us hl => match us, hl with | [_], _ => rfl
  have F35 := fun_mk (st := s_answer_who) l35 c35 k35
  have b35 := F35.binds (ps := ["roster", "day", "hour"]) fun _ _ _ _ _ _ us hl => match us, hl with | [_, _, _], _ => rfl
  have F36 := fun_mk (st := s_answer_day) l36 c36 k36
  have b36 := F36.binds (ps := ["roster", "day"]) fun _ _ _ _ _ _ us hl => match us, hl with | [_, _], _ => rfl
  have F37 := fun_mk (st := s_answer_round) l37 c37 k37
  have b37 := F37.binds (ps := ["ship"]) fun _ _ _ _ _ _ us hl => match us, hl with | [_], _ => rfl
  have F38 := fun_mk (st := s_answer_even) l38 c38 k38
  have b38 := F38.binds (ps := ["ship"]) fun _ _ _ _ _ _ us hl => match us, hl with | [_], _ => rfl
  have F39 := fun_mk (st := s_answer_hours) l39 c39 k39
  have b39 := F39.binds (ps := ["roster", "team", "begin_day", "end_day"]) fun _ _ _ _ _ _ us hl => match us, hl with | [_, _, _, _], _ => rfl
  have F40 := fun_mk (st := s_answer_rests) l40 c40 k40
  have b40 := F40.binds (ps := ["ship", "team"]) fun _ _ _ _ _ _ us hl => match us, hl with | [_, _], _ => rfl
  have F41 := fun_mk (st := s_is_watch_of) l41 c41 k41
  have b41 := F41.binds (ps := ["ship", "day", "watch"]) fun _ _ _ _ _ _ us hl => match us, hl with | [_, _, _], _ => rfl
  have F42 := fun_mk (st := s_answer_comes) l42 c42 k42
  have b42 := F42.binds (ps := ["ship", "team", "watch", "day"]) fun _ _ _ _ _ _ us hl => match us, hl with | [_, _, _, _], _ => rfl
  have F43 := fun_mk (st := s_answer_cuts) l43 c43 k43
  have b43 := F43.binds (ps := ["watches", "least", "most"]) fun _ _ _ _ _ _ us hl => match us, hl with | [_, _, _], _ => rfl
  have F44 := fun_mk (st := s_answer_kinds) l44 c44 k44
  have b44 := F44.binds (ps := ["teams"]) fun _ _ _ _ _ _ us hl => match us, hl with | [_], _ => rfl
  have F45 := fun_mk (st := s_answer_swap) l45 c45 k45
  have b45 := F45.binds (ps := ["roster", "numbers"]) fun _ _ _ _ _ _ us hl => match us, hl with | [_, _], _ => rfl
  have F46 := fun_mk (st := s_answer_undo) l46 c46 k46
  have b46 := F46.binds (ps := ["roster", "number"]) fun _ _ _ _ _ _ us hl => match us, hl with | [_, _], _ => rfl
  have F47 := fun_mk (st := s_answer_change) l47 c47 k47
  have b47 := F47.binds (ps := ["roster", "exchanges", "answer"]) fun _ _ _ _ _ _ us hl => match us, hl with | [_, _, _], _ => rfl
  have F48 := fun_mk (st := s_answer_swaps) l48 c48 k48
  have b48 := F48.binds (ps := ["roster"]) fun _ _ _ _ _ _ us hl => match us, hl with | [_], _ => rfl
  have F49 := fun_mk (st := s_answer_of) l49 c49 k49
  have b49 := F49.binds (ps := ["roster", "number", "numbers"]) fun _ _ _ _ _ _ us hl => match us, hl with | [_, _, _], _ => rfl
  have F50 := fun_mk (st := s_answer_of_turn) l50 c50 k50
  have b50 := F50.binds (ps := ["ship", "number", "numbers"]) fun _ _ _ _ _ _ us hl => match us, hl with | [_, _, _], _ => rfl
  have F51 := fun_mk (st := s_end_of_call) l51 c51 k51
  have b51 := F51.binds (ps := ["calls", "start"]) fun _ _ _ _ _ _ us hl => match us, hl with | [_, _], _ => rfl
  have F52 := fun_mk (st := s_roster_of) l52 c52 k52
  have b52 := F52.binds (ps := ["numbers"]) fun _ _ _ _ _ _ us hl => match us, hl with | [_], _ => rfl
  have F53 := fun_mk (st := s_answers) l53 c53 k53
  have b53 := F53.binds (ps := ["calls"]) fun _ _ _ _ _ _ us hl => match us, hl with | [_], _ => rfl
  have Z : Top K mg CShip CRoster := ⟨T,
    ⟨_, _, F1, b1, PySem.W.mg_of X G a1, k1⟩,
    ⟨_, _, F2, b2, PySem.W.mg_of X G a2, k2⟩,
    ⟨_, _, F3, b3, PySem.W.mg_of X G a3, k3⟩,
    ⟨_, _, F4, b4, PySem.W.mg_of X G a4, k4⟩,
    ⟨_, _, F5, b5, PySem.W.mg_of X G a5, k5⟩,
    ⟨_, _, F6, b6, ⟨mkCShip, a6, i6, kcCShip⟩⟩,
    ⟨_, _, F7, b7, ⟨a7, i7, k7⟩⟩,
    ⟨_, _, F8, b8, ⟨a8, i8, k8⟩⟩,
    ⟨_, _, F9, b9, ⟨a9, i9, k9⟩⟩,
    ⟨_, _, F10, b10, ⟨a10, i10, k10⟩⟩,
    ⟨_, _, F11, b11, ⟨a11, i11, k11⟩⟩,
    ⟨_, _, F12, b12, ⟨a12, i12, k12⟩⟩,
    ⟨_, _, F13, b13, ⟨a13, i13, k13⟩⟩,
    ⟨_, _, F14, b14, ⟨a14, i14, k14⟩⟩,
    ⟨_, _, F15, b15, ⟨a15, i15, k15⟩⟩,
    ⟨_, _, F16, b16, ⟨a16, i16, k16⟩⟩,
    ⟨_, _, F17, b17, ⟨a17, i17, k17⟩⟩,
    ⟨_, _, F18, b18, ⟨a18, i18, k18⟩⟩,
    ⟨_, _, F19, b19, ⟨a19, i19, k19⟩⟩,
    ⟨_, _, F20, b20, ⟨a20, i20, k20⟩⟩,
    ⟨_, _, F21, b21, PySem.W.mg_of X G a21, k21⟩,
    ⟨_, _, F22, b22, PySem.W.mg_of X G a22, k22⟩,
    ⟨_, _, F23, b23, PySem.W.mg_of X G a23, k23⟩,
    ⟨_, _, F24, b24, PySem.W.mg_of X G a24, k24⟩,
    ⟨_, _, F25, b25, PySem.W.mg_of X G a25, k25⟩,
    ⟨_, _, F26, b26, ⟨mkCRoster, a26, i26, kcCRoster⟩⟩,
    ⟨_, _, F27, b27, ⟨a27, i27, k27⟩⟩,
    ⟨_, _, F28, b28, ⟨a28, i28, k28⟩⟩,
    ⟨_, _, F29, b29, ⟨a29, i29, k29⟩⟩,
    ⟨_, _, F30, b30, ⟨a30, i30, k30⟩⟩,
    ⟨_, _, F31, b31, ⟨a31, i31, k31⟩⟩,
    ⟨_, _, F32, b32, ⟨a32, i32, k32⟩⟩,
    ⟨_, _, F33, b33, ⟨a33, i33, k33⟩⟩,
    ⟨_, _, F34, b34, ⟨a34, i34, k34⟩⟩,
    ⟨_, _, F35, b35, PySem.W.mg_of X G a35, k35⟩,
    ⟨_, _, F36, b36, PySem.W.mg_of X G a36, k36⟩,
    ⟨_, _, F37, b37, PySem.W.mg_of X G a37, k37⟩,
    ⟨_, _, F38, b38, PySem.W.mg_of X G a38, k38⟩,
    ⟨_, _, F39, b39, PySem.W.mg_of X G a39, k39⟩,
    ⟨_, _, F40, b40, PySem.W.mg_of X G a40, k40⟩,
    ⟨_, _, F41, b41, PySem.W.mg_of X G a41, k41⟩,
    ⟨_, _, F42, b42, PySem.W.mg_of X G a42, k42⟩,
    ⟨_, _, F43, b43, PySem.W.mg_of X G a43, k43⟩,
    ⟨_, _, F44, b44, PySem.W.mg_of X G a44, k44⟩,
    ⟨_, _, F45, b45, PySem.W.mg_of X G a45, k45⟩,
    ⟨_, _, F46, b46, PySem.W.mg_of X G a46, k46⟩,
    ⟨_, _, F47, b47, PySem.W.mg_of X G a47, k47⟩,
    ⟨_, _, F48, b48, PySem.W.mg_of X G a48, k48⟩,
    ⟨_, _, F49, b49, PySem.W.mg_of X G a49, k49⟩,
    ⟨_, _, F50, b50, PySem.W.mg_of X G a50, k50⟩,
    ⟨_, _, F51, b51, PySem.W.mg_of X G a51, k51⟩,
    ⟨_, _, F52, b52, PySem.W.mg_of X G a52, k52⟩,
    ⟨_, _, F53, b53, PySem.W.mg_of X G a53, k53⟩⟩
  exact ⟨PySem.W.fnOf "answers" "answers" (defArgs s_answers) (defBody s_answers) (defScope s_answers) .none kV53 dc53 pm53 an53 cd53 ct53, fun s us hu => match us, hu with | [_], _ => .of_eq rfl, fun base _ _ => main_ok Z F53⟩

open PySem.W (Codec)
theorem spAns_of {K : PySem.W.Frag} {H : Hp} {q : Addr} {a : Codec.denoteAll [Codec.list 0 900 (.int 0 300)]} (hs : SqL K H q (a.1.map V.int)) (hwi : Codec.withinAll [Codec.list 0 900 (.int 0 300)] a = true) (hask : PyMu43.answers_asked a.1 = true) : spAns K [.ref q] H (fun v H' => Dw K H' v ((Codec.list 0 1048576 (.int (-9223372036854775808) 18446744073709551615)).enc (PyMu43.answers a.1))) (fun _ _ _ => False) := by
  have q2 : ((Codec.inLen 0 900 a.1 && a.1.all (Codec.inInt 0 300)) && true) = true := hwi
  rw [Bool.and_eq_true, Bool.and_eq_true] at q2
  refine ⟨_, a.1, rfl, hs, (Codec.inNat_iff.mp q2.1.1).2, ?_, hask, fun H' p hp => .lst (L2.SqL.of hp) (L2.dw_ints _)⟩
  intro x hx
  have := List.all_eq_true.mp q2.1.2 x hx
  exact Codec.inInt_iff.mp this
end Sw
open PySem PySem.W PyProof.Rows
set_option maxRecDepth 100000 in
set_option maxHeartbeats 8000000 in
theorem PySem.Challenge.cw_shipwatches_s01_answers_holds : PySem.Challenge.rw_shipwatches_s01_answers.Holds := by
  w_on; k_headS; (case hw => exact ⟨[.list [.int 3]], by decide +kernel, by decide +kernel⟩)
  k_fillS
  refine L2.walk_specK (r := PySem.Challenge.rw_shipwatches_s01_answers) (k := 8) (CX := L2.CX0) (ps := ["calls"]) (sp := Sw.spAns) (by decide +kernel) rfl rfl ⟨rfl, by decide, by decide⟩ (fun w h Y => PySem.W.kIn_of Y) ?F ?S (fun _ _ _ _ z => z)
  case F =>
    intro w mg fa h Y KX G hmg
    refine' Sw.all_mk KX G hmg ?aCShip ?pgCShip ?hdCShip ?poCShip ?saCShip ?mkCShip ?kcCShip ?nCShip_teams ?nCShip_first ?nCShip_lengths ?aCRoster ?pgCRoster ?hdCRoster ?poCRoster ?saCRoster ?mkCRoster ?kcCRoster ?nCRoster_ship ?nCRoster_exchanges ?nCRoster_partners ?a1 ?l1 ?c1 ?k1 ?a2 ?l2 ?c2 ?k2 ?a3 ?l3 ?c3 ?k3 ?a4 ?l4 ?c4 ?k4 ?a5 ?l5 ?c5 ?k5 ?a6 ?i6 ?l6 ?c6 ?k6 ?a7 ?i7 ?l7 ?c7 ?k7 ?a8 ?i8 ?l8 ?c8 ?k8 ?a9 ?i9 ?l9 ?c9 ?k9 ?a10 ?i10 ?l10 ?c10 ?k10 ?a11 ?i11 ?l11 ?c11 ?k11 ?a12 ?i12 ?l12 ?c12 ?k12 ?a13 ?i13 ?l13 ?c13 ?k13 ?a14 ?i14 ?l14 ?c14 ?k14 ?a15 ?i15 ?l15 ?c15 ?k15 ?a16 ?i16 ?l16 ?c16 ?k16 ?a17 ?i17 ?l17 ?c17 ?k17 ?a18 ?i18 ?l18 ?c18 ?k18 ?a19 ?i19 ?l19 ?c19 ?k19 ?a20 ?i20 ?l20 ?c20 ?k20 ?a21 ?l21 ?c21 ?k21 ?a22 ?l22 ?c22 ?k22 ?a23 ?l23 ?c23 ?k23 ?a24 ?l24 ?c24 ?k24 ?a25 ?l25 ?c25 ?k25 ?a26 ?i26 ?l26 ?c26 ?k26 ?a27 ?i27 ?l27 ?c27 ?k27 ?a28 ?i28 ?l28 ?c28 ?k28 ?a29 ?i29 ?l29 ?c29 ?k29 ?a30 ?i30 ?l30 ?c30 ?k30 ?a31 ?i31 ?l31 ?c31 ?k31 ?a32 ?i32 ?l32 ?c32 ?k32 ?a33 ?i33 ?l33 ?c33 ?k33 ?a34 ?i34 ?l34 ?c34 ?k34 ?a35 ?l35 ?c35 ?k35 ?a36 ?l36 ?c36 ?k36 ?a37 ?l37 ?c37 ?k37 ?a38 ?l38 ?c38 ?k38 ?a39 ?l39 ?c39 ?k39 ?a40 ?l40 ?c40 ?k40 ?a41 ?l41 ?c41 ?k41 ?a42 ?l42 ?c42 ?k42 ?a43 ?l43 ?c43 ?k43 ?a44 ?l44 ?c44 ?k44 ?a45 ?l45 ?c45 ?k45 ?a46 ?l46 ?c46 ?k46 ?a47 ?l47 ?c47 ?k47 ?a48 ?l48 ?c48 ?k48 ?a49 ?l49 ?c49 ?k49 ?a50 ?l50 ?c50 ?k50 ?a51 ?l51 ?c51 ?k51 ?a52 ?l52 ?c52 ?k52 ?a53 ?l53 ?c53 ?k53 ?z_any ?z_len ?z_list ?z_max ?z_min ?z_range ?z_sum ?q_DAY_HOURS ?q_FEWEST_TEAMS ?q_MOST_TEAMS ?q_FEWEST_WATCHES ?q_MOST_WATCHES ?q_MOST_EXCHANGES ?q_LAST_DAY ?q_NOT_AS_TOLD ?q_NOT_THERE ?q_SAME_TEAM ?q_EXCHANGED_ALREADY ?q_ALL_EXCHANGES_STAND ?q_NEVER ?q_TWO_RUNNING ?q_NO_SHIP ?q_BEGIN ?q_WHO ?q_DAY ?q_ROUND ?q_EVEN ?q_HOURS ?q_RESTS ?q_CUTS ?q_KINDS ?q_SWAP ?q_UNDO ?q_SWAPS ?q_ARGUMENTS ?o_ARGUMENTS
    (case aCShip => k_is)
    (case pgCShip => k_is)
    (case hdCShip => k_is)
    (case poCShip => k_is)
    (case saCShip => k_is)
    (case mkCShip => k_is)
    (case kcCShip => k_is)
    (case nCShip_teams => k_is)
    (case nCShip_first => k_is)
    (case nCShip_lengths => k_is)
    (case aCRoster => k_is)
    (case pgCRoster => k_is)
    (case hdCRoster => k_is)
    (case poCRoster => k_is)
    (case saCRoster => k_is)
    (case mkCRoster => k_is)
    (case kcCRoster => k_is)
    (case nCRoster_ship => k_is)
    (case nCRoster_exchanges => k_is)
    (case nCRoster_partners => k_is)
    (case a1 => k_is)
    (case l1 => k_is)
    (case c1 => k_is)
    (case k1 => k_is)
    (case a2 => k_is)
    (case l2 => k_is)
    (case c2 => k_is)
    (case k2 => k_is)
    (case a3 => k_is)
    (case l3 => k_is)
    (case c3 => k_is)
    (case k3 => k_is)
    (case a4 => k_is)
    (case l4 => k_is)
    (case c4 => k_is)
    (case k4 => k_is)
    (case a5 => k_is)
    (case l5 => k_is)
    (case c5 => k_is)
    (case k5 => k_is)
    (case a6 => k_is)
    (case i6 => k_is)
    (case l6 => k_is)
    (case c6 => k_is)
    (case k6 => k_is)
    (case a7 => k_is)
    (case i7 => k_is)
    (case l7 => k_is)
    (case c7 => k_is)
    (case k7 => k_is)
    (case a8 => k_is)
    (case i8 => k_is)
    (case l8 => k_is)
    (case c8 => k_is)
    (case k8 => k_is)
    (case a9 => k_is)
    (case i9 => k_is)
    (case l9 => k_is)
    (case c9 => k_is)
    (case k9 => k_is)
    (case a10 => k_is)
    (case i10 => k_is)
    (case l10 => k_is)
    (case c10 => k_is)
    (case k10 => k_is)
    (case a11 => k_is)
    (case i11 => k_is)
    (case l11 => k_is)
    (case c11 => k_is)
    (case k11 => k_is)
    (case a12 => k_is)
    (case i12 => k_is)
    (case l12 => k_is)
    (case c12 => k_is)
    (case k12 => k_is)
    (case a13 => k_is)
    (case i13 => k_is)
    (case l13 => k_is)
    (case c13 => k_is)
    (case k13 => k_is)
    (case a14 => k_is)
    (case i14 => k_is)
    (case l14 => k_is)
    (case c14 => k_is)
    (case k14 => k_is)
    (case a15 => k_is)
    (case i15 => k_is)
    (case l15 => k_is)
    (case c15 => k_is)
    (case k15 => k_is)
    (case a16 => k_is)
    (case i16 => k_is)
    (case l16 => k_is)
    (case c16 => k_is)
    (case k16 => k_is)
    (case a17 => k_is)
    (case i17 => k_is)
    (case l17 => k_is)
    (case c17 => k_is)
    (case k17 => k_is)
    (case a18 => k_is)
    (case i18 => k_is)
    (case l18 => k_is)
    (case c18 => k_is)
    (case k18 => k_is)
    (case a19 => k_is)
    (case i19 => k_is)
    (case l19 => k_is)
    (case c19 => k_is)
    (case k19 => k_is)
    (case a20 => k_is)
    (case i20 => k_is)
    (case l20 => k_is)
    (case c20 => k_is)
    (case k20 => k_is)
    (case a21 => k_is)
    (case l21 => k_is)
    (case c21 => k_is)
    (case k21 => k_is)
    (case a22 => k_is)
    (case l22 => k_is)
    (case c22 => k_is)
    (case k22 => k_is)
    (case a23 => k_is)
    (case l23 => k_is)
    (case c23 => k_is)
    (case k23 => k_is)
    (case a24 => k_is)
    (case l24 => k_is)
    (case c24 => k_is)
    (case k24 => k_is)
    (case a25 => k_is)
    (case l25 => k_is)
    (case c25 => k_is)
    (case k25 => k_is)
    (case a26 => k_is)
    (case i26 => k_is)
    (case l26 => k_is)
    (case c26 => k_is)
    (case k26 => k_is)
    (case a27 => k_is)
    (case i27 => k_is)
    (case l27 => k_is)
    (case c27 => k_is)
    (case k27 => k_is)
    (case a28 => k_is)
    (case i28 => k_is)
    (case l28 => k_is)
    (case c28 => k_is)
    (case k28 => k_is)
    (case a29 => k_is)
    (case i29 => k_is)
    (case l29 => k_is)
    (case c29 => k_is)
    (case k29 => k_is)
    (case a30 => k_is)
    (case i30 => k_is)
    (case l30 => k_is)
    (case c30 => k_is)
    (case k30 => k_is)
    (case a31 => k_is)
    (case i31 => k_is)
    (case l31 => k_is)
    (case c31 => k_is)
    (case k31 => k_is)
    (case a32 => k_is)
    (case i32 => k_is)
    (case l32 => k_is)
    (case c32 => k_is)
    (case k32 => k_is)
    (case a33 => k_is)
    (case i33 => k_is)
    (case l33 => k_is)
    (case c33 => k_is)
    (case k33 => k_is)
    (case a34 => k_is)
    (case i34 => k_is)
    (case l34 => k_is)
    (case c34 => k_is)
    (case k34 => k_is)
    (case a35 => k_is)
    (case l35 => k_is)
    (case c35 => k_is)
    (case k35 => k_is)
    (case a36 => k_is)
    (case l36 => k_is)
    (case c36 => k_is)
    (case k36 => k_is)
    (case a37 => k_is)
    (case l37 => k_is)
    (case c37 => k_is)
    (case k37 => k_is)
    (case a38 => k_is)
    (case l38 => k_is)
    (case c38 => k_is)
    (case k38 => k_is)
    (case a39 => k_is)
    (case l39 => k_is)
    (case c39 => k_is)
    (case k39 => k_is)
    (case a40 => k_is)
    (case l40 => k_is)
    (case c40 => k_is)
    (case k40 => k_is)
    (case a41 => k_is)
    (case l41 => k_is)
    (case c41 => k_is)
    (case k41 => k_is)
    (case a42 => k_is)
    (case l42 => k_is)
    (case c42 => k_is)
    (case k42 => k_is)
    (case a43 => k_is)
    (case l43 => k_is)
    (case c43 => k_is)
    (case k43 => k_is)
    (case a44 => k_is)
    (case l44 => k_is)
    (case c44 => k_is)
    (case k44 => k_is)
    (case a45 => k_is)
    (case l45 => k_is)
    (case c45 => k_is)
    (case k45 => k_is)
    (case a46 => k_is)
    (case l46 => k_is)
    (case c46 => k_is)
    (case k46 => k_is)
    (case a47 => k_is)
    (case l47 => k_is)
    (case c47 => k_is)
    (case k47 => k_is)
    (case a48 => k_is)
    (case l48 => k_is)
    (case c48 => k_is)
    (case k48 => k_is)
    (case a49 => k_is)
    (case l49 => k_is)
    (case c49 => k_is)
    (case k49 => k_is)
    (case a50 => k_is)
    (case l50 => k_is)
    (case c50 => k_is)
    (case k50 => k_is)
    (case a51 => k_is)
    (case l51 => k_is)
    (case c51 => k_is)
    (case k51 => k_is)
    (case a52 => k_is)
    (case l52 => k_is)
    (case c52 => k_is)
    (case k52 => k_is)
    (case a53 => k_is)
    (case l53 => k_is)
    (case c53 => k_is)
    (case k53 => k_is)
    (case z_any => k_is)
    (case z_len => k_is)
    (case z_list => k_is)
    (case z_max => k_is)
    (case z_min => k_is)
    (case z_range => k_is)
    (case z_sum => k_is)
    (case q_DAY_HOURS => k_is)
    (case q_FEWEST_TEAMS => k_is)
    (case q_MOST_TEAMS => k_is)
    (case q_FEWEST_WATCHES => k_is)
    (case q_MOST_WATCHES => k_is)
    (case q_MOST_EXCHANGES => k_is)
    (case q_LAST_DAY => k_is)
    (case q_NOT_AS_TOLD => k_is)
    (case q_NOT_THERE => k_is)
    (case q_SAME_TEAM => k_is)
    (case q_EXCHANGED_ALREADY => k_is)
    (case q_ALL_EXCHANGES_STAND => k_is)
    (case q_NEVER => k_is)
    (case q_TWO_RUNNING => k_is)
    (case q_NO_SHIP => k_is)
    (case q_BEGIN => k_is)
    (case q_WHO => k_is)
    (case q_DAY => k_is)
    (case q_ROUND => k_is)
    (case q_EVEN => k_is)
    (case q_HOURS => k_is)
    (case q_RESTS => k_is)
    (case q_CUTS => k_is)
    (case q_KINDS => k_is)
    (case q_SWAP => k_is)
    (case q_UNDO => k_is)
    (case q_SWAPS => k_is)
    (case q_ARGUMENTS => k_is)
    (case o_ARGUMENTS => k_is)
  case S =>
    intro K H xs a hO hwi hask hx
    cases hx with
    | cons h1 h2 =>
      cases h2
      cases h1 with
      | lst hs ha =>
        have e := L2.ints_dw a.1 _ ha
        subst e
        exact Sw.spAns_of hs hwi hask

