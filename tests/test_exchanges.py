"""Points 11 to 13, and what the other points say of exchanges, with answers reckoned by hand."""

import unittest

from tests.helper import ask, begin, comes, day, even, hours, on_ship, rests, swap, swaps, turn_round, undo, who

# Day 0 is 0 1 2 3 4 0, and each day begins one team later: 1 2 3 4 0 1, then 2 3 4 0 1 2, and so on;
# day 199 is 4 0 1 2 3 4, day 200 is 0 1 2 3 4 0 again.
FIVE = (5, 0, [1, 2, 3, 4, 5, 9])
# Each day is 0 1 2 3 4, so that team 0 stands behind day 200's last watch.
ALIKE = (5, 0, [4, 4, 4, 4, 8])
# Day 0 is 1 2 0 1 2 0 1, day 1 is 2 0 1 2 0 1 2, day 2 is 0 1 2 0 1 2 0.
DOGS = (3, 1, [4, 4, 4, 2, 2, 4, 4])

# Six exchanges that don't touch one another.
SIX = [swap(number, 0, number, 2) for number in range(6)]
SIX_TOLD = [[number, 0, number, 2] for number in range(6)]
# What tells apart any two sets of exchanges on the first days.
QUESTIONS = [swaps()] + [day(number) for number in range(9)] + [hours(team, 0, 9) for team in range(5)] + [
    who(0, 0), who(0, 3), who(1, 0), who(1, 4)]


def told(*exchanges):
    """What swaps answers when these stand."""
    return [len(exchanges)] + [number for exchange in exchanges for number in exchange]


class Swap(unittest.TestCase):
    def test_two_watches_of_one_day(self):
        self.assertEqual(on_ship(FIVE, swap(0, 0, 0, 2), day(0), day(1)), [[0], [2, 1, 0, 3, 4, 0], [1, 2, 3, 4, 0, 1]])
        self.assertEqual(on_ship(FIVE, swap(0, 2, 0, 0), day(0), day(1)), [[0], [2, 1, 0, 3, 4, 0], [1, 2, 3, 4, 0, 1]])

    def test_two_watches_of_two_days(self):
        for call in (swap(0, 5, 1, 1), swap(1, 1, 0, 5)):
            self.assertEqual(on_ship(FIVE, call, day(0), day(1), day(2)),
                             [[0], [0, 1, 2, 3, 4, 2], [1, 0, 3, 4, 0, 1], [2, 3, 4, 0, 1, 2]])

    def test_two_watches_far_apart(self):
        for call in (swap(0, 1, 200, 4), swap(200, 4, 0, 1)):
            self.assertEqual(on_ship(FIVE, call, day(0), day(1), day(199), day(200)),
                             [[0], [0, 4, 2, 3, 4, 0], [1, 2, 3, 4, 0, 1], [4, 0, 1, 2, 3, 4], [0, 1, 2, 3, 1, 0]])

    def test_two_watches_side_by_side(self):
        self.assertEqual(on_ship(FIVE, swap(0, 1, 0, 2), day(0)), [[0], [0, 2, 1, 3, 4, 0]])
        self.assertEqual(on_ship(DOGS, swap(0, 1, 0, 0), day(0)), [[0], [2, 1, 0, 1, 2, 0, 1]])
        self.assertEqual(on_ship(DOGS, swap(0, 6, 1, 0), day(0), day(1)),
                         [[0], [1, 2, 0, 1, 2, 0, 2], [1, 0, 1, 2, 0, 1, 2]])

    def test_days_0_and_200(self):
        self.assertEqual(on_ship(FIVE, swap(0, 0, 0, 3), swap(200, 5, 200, 2), day(0), day(200)),
                         [[0], [1], [3, 1, 2, 0, 4, 0], [0, 1, 0, 3, 4, 2]])
        self.assertEqual(on_ship(FIVE, swap(0, 0, 200, 2), day(0), day(200)),
                         [[0], [2, 1, 2, 3, 4, 0], [0, 1, 0, 3, 4, 0]])

    def test_numbers_from_0_to_5(self):
        self.assertEqual(on_ship(FIVE, *SIX), [[0], [1], [2], [3], [4], [5]])

    def test_no_such_day_or_watch(self):
        wrong = [swap(201, 0, 0, 2), swap(300, 0, 0, 2), swap(0, 0, 201, 1), swap(0, 0, 300, 2),
                 swap(0, 6, 0, 2), swap(0, 9, 0, 2), swap(0, 0, 0, 6), swap(0, 0, 0, 9), swap(200, 5, 200, 6),
                 swap(201, 6, 201, 6)]
        self.assertEqual(on_ship(FIVE, *wrong, swaps()), [[-1]] * len(wrong) + [[0]])

    def test_no_such_day_or_watch_ahead_of_all_else(self):
        # Of one team, one and the same, side by side with its own, exchanged already, and when six stand.
        wrong = [swap(0, 0, 201, 4), swap(201, 0, 201, 0), swap(0, 6, 0, 6), swap(0, 0, 0, 6), swap(201, 2, 0, 2)]
        self.assertEqual(on_ship(FIVE, *wrong), [[-1]] * 5)
        self.assertEqual(on_ship(FIVE, *SIX, *wrong, swaps())[6:], [[-1]] * 5 + [told(*SIX_TOLD)])

    def test_the_seventh(self):
        self.assertEqual(on_ship(FIVE, *SIX, swap(6, 0, 6, 2), swaps())[6:], [[-5], told(*SIX_TOLD)])

    def test_the_seventh_ahead_of_all_behind_it(self):
        # Exchanged already, exchanged for one another, of one team, one and the same, two running.
        calls = [swap(0, 0, 9, 1), swap(9, 1, 0, 0), swap(3, 0, 3, 2), swap(7, 0, 7, 5), swap(7, 0, 7, 0),
                 swap(7, 0, 9, 4)]
        self.assertEqual(on_ship(FIVE, *SIX, *calls)[6:], [[-5]] * 6)
        self.assertEqual(on_ship(FIVE, *SIX[:5], *calls)[5:], [[-4], [-4], [-4], [-3], [-3], [-7]])

    def test_another_instead_of_one_that_is_undone(self):
        found = on_ship(FIVE, *SIX, undo(2), swap(6, 0, 6, 2), swap(7, 0, 7, 2), swaps())
        self.assertEqual(found[6:], [[5], [5], [-5], told(*SIX_TOLD[:2], *SIX_TOLD[3:], [6, 0, 6, 2])])

    def test_exchanged_already(self):
        first = swap(0, 0, 1, 1)
        again = [swap(0, 0, 3, 4), swap(1, 1, 3, 3), swap(3, 4, 0, 0), swap(3, 3, 1, 1), first, swap(1, 1, 0, 0)]
        self.assertEqual(on_ship(FIVE, first, *again, swaps()), [[0]] + [[-4]] * 6 + [told([0, 0, 1, 1])])

    def test_exchanged_already_in_a_later_exchange(self):
        self.assertEqual(on_ship(FIVE, *SIX[:3], swap(2, 2, 8, 0), swap(8, 0, 2, 0), swap(8, 0, 8, 2)),
                         [[0], [1], [2], [-4], [-4], [3]])

    def test_exchanged_already_ahead_of_same_team_and_two_running(self):
        # (0, 0) is team 0's turn and team 2 stands it.
        calls = [swap(0, 0, 0, 0), swap(0, 0, 0, 5), swap(0, 5, 0, 0), swap(0, 0, 2, 0), swap(0, 0, 0, 4),
                 swap(0, 4, 0, 0), swap(0, 2, 0, 3)]
        self.assertEqual(on_ship(FIVE, swap(0, 0, 0, 2), *calls), [[0]] + [[-4]] * 7)

    def test_the_same_team(self):
        self.assertEqual(on_ship(FIVE, swap(0, 0, 0, 5), swap(0, 4, 199, 5), swap(200, 0, 0, 5), swap(3, 3, 3, 3),
                                 swap(200, 5, 200, 5), swap(0, 0, 0, 0), swaps()), [[-3]] * 6 + [[0]])
        # With two teams an exchange of any two different ones leaves somebody two running.
        self.assertEqual(on_ship((2, 0, [12, 12]), swap(0, 0, 9, 0), swap(0, 0, 9, 1)), [[-3], [-7]])

    def test_the_same_watch_of_another_day(self):
        self.assertEqual(on_ship(FIVE, swap(0, 1, 2, 1), swap(1, 1, 6, 1)), [[0], [-3]])


class TwoRunning(unittest.TestCase):
    def refused(self, ship, *calls):
        """The last swap is refused, and those ahead of it aren't."""
        found = on_ship(ship, *calls, swaps())
        self.assertEqual(found[:-1], [[number] for number in range(len(calls) - 1)] + [[-7]])
        self.assertEqual(found[-1], told(*[call[1:] for call in calls[:-1]]))

    def test_at_both_of_the_two(self):
        for call in (swap(0, 1, 1, 1), swap(1, 1, 0, 1), swap(0, 4, 9, 1)):
            self.refused(FIVE, call)
        self.refused(DOGS, swap(0, 0, 0, 2))

    def test_the_watch_behind_within_a_day(self):
        # Day 0 would be 4 1 2 3 0 0.
        self.refused(FIVE, swap(0, 0, 0, 4))
        self.refused(FIVE, swap(0, 4, 0, 0))

    def test_the_watch_behind_over_midnight(self):
        # Day 4 would end with team 0, and day 5 begins with it.
        self.refused(FIVE, swap(0, 0, 4, 5))
        self.refused(FIVE, swap(4, 5, 0, 0))

    def test_the_watch_ahead_within_a_day(self):
        # Day 0 would be 0 2 4 3 2 0, which may be, but day 1 would be 1 1 3 4 0 1.
        self.refused(FIVE, swap(0, 2, 0, 4), swap(0, 1, 1, 1))
        self.refused(FIVE, swap(0, 2, 0, 4), swap(1, 1, 0, 1))

    def test_the_watch_ahead_over_midnight(self):
        # Day 0 would be 0 2 4 3 2 0 again; day 1 ends with team 1, and day 2 would begin with it.
        self.refused(FIVE, swap(0, 2, 0, 4), swap(0, 1, 2, 0))
        self.refused(FIVE, swap(0, 2, 0, 4), swap(2, 0, 0, 1))

    def test_the_first_watch_of_all_is_the_one_ahead(self):
        # Day 0 would be 0 0 2 3 4 1.
        self.refused(FIVE, swap(1, 0, 1, 2), swap(0, 1, 0, 5))
        self.refused(FIVE, swap(1, 0, 1, 2), swap(0, 5, 0, 1))

    def test_nothing_lies_ahead_of_the_first_watch(self):
        # Day 0 becomes 4 1 2 3 0 2.
        self.assertEqual(on_ship(FIVE, swap(0, 5, 1, 1), swap(0, 0, 0, 4), day(0)), [[0], [1], [4, 1, 2, 3, 0, 2]])

    def test_the_watch_behind_day_200(self):
        # Day 200 would be 0 1 2 3 0, and team 0 begins day 201.
        self.refused(ALIKE, swap(200, 4, 0, 0))
        self.refused(ALIKE, swap(0, 0, 200, 4))
        self.assertEqual(on_ship(ALIKE, swap(200, 4, 200, 2), day(200)), [[0], [0, 1, 4, 3, 2]])

    def test_between_two_exchanges_within_a_day(self):
        # Both bring team 4: day 0 would be 0 4 4 3 4 0.
        self.refused(FIVE, swap(0, 2, 1, 3), swap(0, 1, 2, 2))
        self.refused(FIVE, swap(0, 1, 2, 2), swap(0, 2, 1, 3))
        self.assertEqual(on_ship(FIVE, swap(0, 1, 2, 2)), [[0]])
        self.assertEqual(on_ship(FIVE, swap(0, 2, 1, 3)), [[0]])

    def test_between_two_exchanges_over_midnight(self):
        # Day 0 would end and day 1 would begin with team 3.
        self.refused(FIVE, swap(0, 5, 0, 3), swap(1, 0, 1, 2))
        self.refused(FIVE, swap(1, 0, 1, 2), swap(0, 5, 0, 3))
        self.assertEqual(on_ship(FIVE, swap(1, 0, 1, 2)), [[0]])

    def test_allowed_only_because_of_another(self):
        self.refused(FIVE, swap(0, 0, 0, 4))
        self.assertEqual(on_ship(FIVE, swap(0, 5, 1, 1), swap(0, 0, 0, 4), day(0), day(1)),
                         [[0], [1], [4, 1, 2, 3, 0, 2], [1, 0, 3, 4, 0, 1]])

    def test_allowed_only_because_of_two_others(self):
        one, two, three = swap(0, 2, 0, 4), swap(1, 0, 1, 3), swap(0, 1, 1, 1)
        self.refused(FIVE, three)
        self.refused(FIVE, one, three)
        self.refused(FIVE, two, three)
        self.assertEqual(on_ship(FIVE, one, two, three, day(0), day(1)),
                         [[0], [1], [2], [0, 2, 4, 3, 2, 0], [4, 1, 3, 1, 0, 1]])

    def test_two_teams_can_exchange_nothing(self):
        for lengths in ([12, 12], [8, 8, 8]):
            calls = [swap(0, 0, 0, 1), swap(0, 1, 1, 0), swap(0, 0, 200, 1), swap(200, 0, 200, 1)]
            answers = on_ship((2, 0, lengths), *calls, swaps())
            self.assertEqual([answer for answer in answers if answer not in ([-7], [-3])], [[0]])


class Undo(unittest.TestCase):
    def test_the_first(self):
        self.assertEqual(on_ship(FIVE, *SIX, undo(0), swaps(), day(0), day(1))[6:],
                         [[5], told(*SIX_TOLD[1:]), [0, 1, 2, 3, 4, 0], [3, 2, 1, 4, 0, 1]])

    def test_a_middle_one(self):
        self.assertEqual(on_ship(FIVE, *SIX, undo(2), swaps(), day(1), day(2), day(3))[6:],
                         [[5], told(*SIX_TOLD[:2], *SIX_TOLD[3:]),
                          [3, 2, 1, 4, 0, 1], [2, 3, 4, 0, 1, 2], [0, 4, 3, 1, 2, 3]])

    def test_the_last(self):
        self.assertEqual(on_ship(FIVE, *SIX, undo(5), swaps(), day(4), day(5))[6:],
                         [[5], told(*SIX_TOLD[:5]), [1, 0, 4, 2, 3, 4], [0, 1, 2, 3, 4, 0]])

    def test_those_behind_move_up(self):
        found = on_ship(FIVE, *SIX[:4], undo(1), undo(1), swaps(), undo(1), swaps(), undo(0), swaps())
        self.assertEqual(found[4:], [[3], [2], told(SIX_TOLD[0], SIX_TOLD[3]), [1], told(SIX_TOLD[0]), [0], [0]])

    def test_down_to_none(self):
        self.assertEqual(on_ship(FIVE, *SIX, *[undo(0)] * 7, *QUESTIONS)[6:],
                         [[5], [4], [3], [2], [1], [0], [-2]] + on_ship(FIVE, *QUESTIONS))
        self.assertEqual(on_ship(FIVE, *SIX, *[undo(number) for number in (5, 4, 3, 2, 1, 0)])[6:],
                         [[5], [4], [3], [2], [1], [0]])

    def test_as_if_it_had_never_stood(self):
        for number in range(6):
            others = SIX[:number] + SIX[number + 1:]
            self.assertEqual(on_ship(FIVE, *SIX, undo(number), *QUESTIONS)[7:], on_ship(FIVE, *others, *QUESTIONS)[5:])

    def test_its_watches_may_be_exchanged_again(self):
        self.assertEqual(on_ship(FIVE, *SIX[:2], undo(0), swap(0, 2, 0, 0), swaps(), swap(0, 0, 0, 3))[2:],
                         [[1], [1], told(SIX_TOLD[1], [0, 2, 0, 0]), [-4]])

    def test_no_such_one(self):
        self.assertEqual(on_ship(FIVE, undo(0), undo(1), undo(9)), [[-2]] * 3)
        self.assertEqual(on_ship(FIVE, SIX[0], undo(1), undo(0), undo(0)), [[0], [-2], [0], [-2]])
        self.assertEqual(on_ship(FIVE, *SIX, undo(6), undo(9), undo(5), undo(5), swaps())[6:],
                         [[-2], [-2], [5], [-2], told(*SIX_TOLD[:5])])

    def test_two_running(self):
        # Day 0 would be 4 1 2 3 0 0.
        leaning = [swap(0, 5, 1, 1), swap(0, 0, 0, 4)]
        both = told([0, 5, 1, 1], [0, 0, 0, 4])
        self.assertEqual(on_ship(FIVE, *leaning, undo(0), swaps(), day(0), undo(1), undo(0))[2:],
                         [[-7], both, [4, 1, 2, 3, 0, 2], [1], [0]])

    def test_two_running_ahead_and_behind(self):
        three = [swap(0, 2, 0, 4), swap(1, 0, 1, 3), swap(0, 1, 1, 1)]
        # Day 0 would be 0 2 2 3 4 0; day 1 would be 1 1 3 4 0 1.
        self.assertEqual(on_ship(FIVE, *three, undo(0), undo(1), undo(2), undo(0), undo(0))[3:],
                         [[-7], [-7], [2], [1], [0]])

    def test_two_running_when_numbers_have_moved_up(self):
        calls = [swap(9, 0, 9, 2), swap(0, 5, 1, 1), swap(0, 0, 0, 4), undo(0), undo(0), undo(1), undo(0)]
        self.assertEqual(on_ship(FIVE, *calls), [[0], [1], [2], [2], [-7], [1], [0]])

    def test_no_such_one_where_others_lean_on_one_another(self):
        self.assertEqual(on_ship(FIVE, swap(0, 5, 1, 1), swap(0, 0, 0, 4), undo(2)), [[0], [1], [-2]])


class Swaps(unittest.TestCase):
    def test_none(self):
        self.assertEqual(on_ship(FIVE, swaps()), [[0]])
        self.assertEqual(on_ship((2, 0, [12, 12]), swaps()), [[0]])

    def test_as_they_were_handed_over(self):
        calls = [swap(1, 1, 0, 5), swap(200, 4, 7, 0), swap(3, 2, 3, 4), swap(9, 4, 200, 0), swap(150, 3, 149, 1)]
        found = on_ship(FIVE, *calls, swaps())
        self.assertEqual(found[:5], [[0], [1], [2], [3], [4]])
        self.assertEqual(found[5], [5, 1, 1, 0, 5, 200, 4, 7, 0, 3, 2, 3, 4, 9, 4, 200, 0, 150, 3, 149, 1])

    def test_six(self):
        self.assertEqual(on_ship(FIVE, *SIX[::-1], swaps())[6], told(*SIX_TOLD[::-1]))


class RefusedOrUndone(unittest.TestCase):
    def unchanged(self, standing, refused, answer):
        calls = [begin(*FIVE)] + standing
        before = ask(*calls, *QUESTIONS)[len(calls):]
        found = ask(*calls, *QUESTIONS, refused, *QUESTIONS)[len(calls):]
        self.assertEqual(found, before + [answer] + before, refused)

    def test_a_refused_swap_changes_nothing(self):
        two = [swap(0, 5, 1, 1), swap(0, 0, 0, 4)]
        self.unchanged(two, swap(2, 0, 201, 2), [-1])
        self.unchanged(two, swap(2, 6, 2, 0), [-1])
        self.unchanged(SIX, swap(7, 0, 7, 2), [-5])
        self.unchanged(two, swap(1, 1, 1, 3), [-4])
        self.unchanged(two, swap(1, 3, 1, 1), [-4])
        self.unchanged(two, swap(2, 0, 2, 5), [-3])
        self.unchanged(two, swap(2, 0, 2, 0), [-3])
        self.unchanged(two, swap(1, 0, 2, 0), [-7])
        self.unchanged([], swap(0, 0, 0, 4), [-7])

    def test_a_refused_undo_changes_nothing(self):
        two = [swap(0, 5, 1, 1), swap(0, 0, 0, 4)]
        self.unchanged([], undo(0), [-2])
        self.unchanged(two, undo(2), [-2])
        self.unchanged(SIX, undo(9), [-2])
        self.unchanged(two, undo(0), [-7])

    def test_what_was_refused_leaves_its_watches_free(self):
        self.assertEqual(on_ship(FIVE, swap(0, 0, 0, 4), swap(0, 0, 0, 2), swap(0, 4, 1, 0)), [[-7], [0], [1]])


class AsExchanged(unittest.TestCase):
    def test_who(self):
        found = on_ship(FIVE, swap(0, 0, 0, 2), who(0, 0), who(0, 1), who(0, 3), who(0, 5), who(1, 0), who(1, 3),
                        who(5, 0), undo(0), who(0, 0), who(0, 5))
        self.assertEqual(found, [[0], [0, 2, 1], [1, 1, 2], [2, 0, 3], [2, 0, 1], [0, 1, 1], [2, 3, 3],
                                 [0, 0, 1], [0], [0, 0, 1], [2, 2, 1]])

    def test_who_on_two_days(self):
        found = on_ship(FIVE, swap(0, 5, 1, 1), who(0, 14), who(0, 15), who(0, 23), who(1, 0), who(1, 1), who(1, 2),
                        who(1, 3), who(0, 1), who(1, 23))
        self.assertEqual(found[1:], [[4, 4, 1], [5, 2, 9], [5, 2, 1], [0, 1, 1], [1, 0, 2], [1, 0, 1],
                                     [2, 3, 3], [1, 1, 2], [5, 1, 1]])

    def test_day(self):
        found = on_ship(FIVE, swap(0, 5, 1, 1), swap(0, 0, 0, 4), day(0), day(1), day(2), day(5), undo(1), day(0),
                        undo(0), day(0), day(1))
        self.assertEqual(found[2:], [[4, 1, 2, 3, 0, 2], [1, 0, 3, 4, 0, 1], [2, 3, 4, 0, 1, 2], [0, 1, 2, 3, 4, 0],
                                     [1], [0, 1, 2, 3, 4, 2], [0], [0, 1, 2, 3, 4, 0], [1, 2, 3, 4, 0, 1]])

    def test_hours_of_one_day(self):
        asked = [hours(team, 0, 1) for team in range(5)]
        self.assertEqual(on_ship(FIVE, *asked), [[10], [2], [3], [4], [5]])
        self.assertEqual(on_ship(FIVE, swap(0, 0, 0, 2), *asked, undo(0), *asked)[1:],
                         [[12], [2], [1], [4], [5], [0], [10], [2], [3], [4], [5]])

    def test_hours_of_two_days(self):
        asked = [hours(0, 0, 1), hours(2, 0, 1), hours(0, 1, 2), hours(2, 1, 2), hours(0, 0, 2), hours(2, 0, 2),
                 hours(0, 0, 0), hours(0, 2, 7), hours(2, 2, 7), hours(0, 0, 200), hours(2, 0, 200), hours(1, 0, 200)]
        without = [[10], [3], [5], [2], [15], [5], [0], [24], [24], [960], [960], [960]]
        self.assertEqual(on_ship(FIVE, *asked), without)
        self.assertEqual(on_ship(FIVE, swap(0, 5, 1, 1), *asked)[1:],
                         [[1], [12], [7], [0], [8], [12], [0], [24], [24], [953], [967], [960]])
        self.assertEqual(on_ship(FIVE, swap(0, 5, 1, 1), undo(0), *asked)[2:], without)

    def test_day_200_is_not_one_of_those_up_to_it(self):
        found = on_ship(FIVE, swap(0, 0, 200, 2), hours(0, 0, 200), hours(2, 0, 200), hours(2, 199, 200),
                        hours(0, 200, 200))
        self.assertEqual(found[1:], [[959], [961], [4], [0]])

    def test_refusals_are_as_ever(self):
        found = on_ship(FIVE, swap(0, 0, 0, 2), who(201, 0), who(0, 24), day(201), hours(5, 0, 1), hours(0, 1, 0))
        self.assertEqual(found[1:], [[-1], [-1], [-1], [-2], [-1]])


class AsIfNothingWereExchanged(unittest.TestCase):
    def same(self, ship, calls, days):
        teams, _, lengths = ship
        asked = [turn_round(), even()] + [rests(team) for team in range(teams)]
        asked += [comes(team, watch, number) for team in range(teams) for watch in range(len(lengths))
                  for number in days]
        for start in range(0, len(asked), 40):
            part = asked[start:start + 40]
            found = on_ship(ship, *calls, *part)
            self.assertEqual([answer for answer in found[:len(calls)] if answer[0] < 0], [])
            self.assertEqual(found[len(calls):], on_ship(ship, *part))

    def test_round_even_rests_comes(self):
        self.same(FIVE, SIX, (0, 2))
        self.same(FIVE, [swap(0, 5, 1, 1), swap(0, 0, 0, 4), swap(200, 0, 200, 3)], (0, 1, 200))
        self.same(ALIKE, [swap(0, 0, 0, 2), swap(3, 1, 3, 4)], (0, 3))
        self.same(DOGS, [swap(0, 0, 0, 1), swap(1, 5, 1, 6)], (0, 1))
        self.same((4, 0, [3, 5, 4, 4, 4, 4]), [swap(0, 0, 1, 0)], (0, 1))

    def test_by_hand(self):
        self.assertEqual(on_ship(FIVE, swap(0, 0, 0, 2), turn_round(), even(), comes(0, 0, 0), comes(2, 0, 0),
                                 comes(2, 2, 0), rests(0), rests(2))[1:],
                         [[5, 1], [1, 24, 24, 24, 24, 24], [0], [2], [0], [10, 21], [10, 21]])


class Begin(unittest.TestCase):
    def test_it_takes_away_all_exchanges(self):
        for ship in (FIVE, (5, 0, [4] * 6), (5, 1, [1, 2, 3, 4, 5, 9]), ALIKE):
            found = ask(begin(*FIVE), *SIX, begin(*ship), *QUESTIONS, undo(0), SIX[0])
            self.assertEqual(found[7:], [[0]] + on_ship(ship, *QUESTIONS, undo(0), SIX[0]))

    def test_a_refused_one_leaves_them(self):
        before = on_ship(FIVE, *SIX, *QUESTIONS)[6:]
        for wrong in (begin(1, 0, [12, 12]), begin(5, 5, [12, 12]), begin(5, 0, []), begin(5, 0, [12, 13])):
            found = on_ship(FIVE, *SIX, wrong, *QUESTIONS)[6:]
            self.assertEqual(found, [[-1]] + before)


if __name__ == "__main__":
    unittest.main()
