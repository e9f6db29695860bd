"""What the document says ahead of the points, and the interface."""

import unittest

from shipwatches.turn import answers
from tests.helper import (ask, begin, comes, cuts, day, even, hours, kinds, line, rests, swap, swaps, turn_round,
                          undo, who)

GOOD = begin(3, 1, [4, 4, 4, 2, 2, 4, 4])
REFUSED = begin(3, 3, [12, 12])
# Each call once that is answered behind GOOD, and each once that is refused there.
ANSWERED = [swap(0, 0, 0, 1), who(5, 13), day(4), turn_round(), even(), hours(2, 1, 9), rests(0), comes(0, 0, 0),
            cuts(3, 2, 9), kinds(4), swaps(), undo(0)]
NOT_ANSWERED = [who(201, 0), who(0, 24), day(201), hours(3, 0, 1), hours(0, 2, 1), rests(3), comes(3, 0, 0),
                comes(0, 7, 0), cuts(1, 1, 24), kinds(6), swap(201, 0, 0, 0), swap(0, 0, 0, 3), swap(0, 0, 0, 2),
                undo(0)]
REFUSALS = [[-1], [-1], [-1], [-2], [-1], [-2], [-2], [-1], [-1], [-1], [-1], [-3], [-7], [-2]]

# Every call but begin, with numbers that are in order and with some that aren't.
WITHOUT_SHIP = [
    who(0, 0), who(201, 24), day(0), day(300), turn_round(), even(), hours(0, 0, 1), hours(9, 300, 0),
    rests(0), rests(9), comes(0, 0, 0), comes(9, 9, 300), cuts(2, 1, 23), cuts(0, 0, 30), kinds(2), kinds(0),
    swap(0, 0, 0, 1), swap(0, 0, 0, 0), swap(300, 9, 300, 9), undo(0), undo(9), swaps(),
]


class Untouched(list):
    """A list that refuses to be changed, even for a while."""

    def refuse(self, *words, **named):
        raise AssertionError("the list that was handed in is changed")

    append = extend = insert = pop = remove = clear = sort = reverse = refuse
    __setitem__ = __delitem__ = __iadd__ = __imul__ = refuse


class WithoutShip(unittest.TestCase):
    def test_each_call_at_the_beginning(self):
        for call in WITHOUT_SHIP:
            with self.subTest(call=call):
                self.assertEqual(answers(call), [1, -9])

    def test_all_calls_one_behind_another(self):
        self.assertEqual(ask(*WITHOUT_SHIP), [[-9]] * len(WITHOUT_SHIP))

    def test_a_refused_begin_brings_no_ship(self):
        for call in WITHOUT_SHIP:
            with self.subTest(call=call):
                self.assertEqual(ask(call, REFUSED, call), [[-9], [-1], [-9]])

    def test_a_begin_ends_it(self):
        self.assertEqual(ask(day(0), REFUSED, day(0), begin(2, 1, [12, 12]), day(0)),
                         [[-9], [-1], [-9], [0], [1, 0]])


class RefusedBegin(unittest.TestCase):
    def test_the_ship_that_was_there_stays(self):
        questions = [who(5, 13), day(4), turn_round(), even(), hours(2, 1, 9), rests(0), rests(3)]
        before = ask(GOOD, *questions)[1:]
        refusals = [begin(1, 0, [12, 12]), begin(6, 0, [12, 12]), begin(5, 5, [12, 12]), begin(4, 0, []),
                    begin(4, 0, [24]), begin(4, 0, [0, 12, 12]), begin(4, 0, [12, 13])]
        for refused in refusals:
            with self.subTest(refused=refused):
                found = ask(GOOD, refused, *questions)
                self.assertEqual(found[1], [-1])
                self.assertEqual(found[2:], before)


class OtherRefusals(unittest.TestCase):
    def test_nothing_changes(self):
        before = ask(GOOD, *ANSWERED)[1:]
        found = ask(GOOD, *NOT_ANSWERED, *ANSWERED)
        self.assertEqual(found[1:1 + len(REFUSALS)], REFUSALS)
        self.assertEqual(found[1 + len(REFUSALS):], before)


class AnyOrder(unittest.TestCase):
    def test_an_answer_hangs_on_no_question(self):
        questions = [who(5, 13), day(4), turn_round(), even(), hours(2, 1, 9), rests(0), comes(0, 0, 0), cuts(3, 2, 9),
                     kinds(4), swaps(), day(201)]
        alone = [ask(GOOD, question)[1] for question in questions]
        self.assertEqual(ask(GOOD, *questions)[1:], alone)
        self.assertEqual(ask(GOOD, *questions[::-1])[1:], alone[::-1])
        self.assertEqual(ask(GOOD, *questions, *questions)[1:], alone + alone)


class Interface(unittest.TestCase):
    def test_how_many_numbers_then_these(self):
        self.assertEqual(answers(line([
            rests(0),
            begin(2, 0, [10, 6, 8]),
            who(0, 11),
            day(1),
            turn_round(),
            even(),
            hours(0, 0, 1),
            rests(0),
            comes(1, 0, 0),
            cuts(2, 8, 16),
            cuts(2, 13, 24),
            kinds(2),
            swaps(),
            begin(2, 2, [12, 12]),
            who(0, 24),
            day(201),
            hours(2, 0, 1),
            rests(2),
            comes(2, 0, 0),
            cuts(9, 1, 24),
            kinds(1),
            swap(0, 0, 0, 1),
            undo(0),
            begin(3, 0, [10, 6, 8]),
            swap(1, 2, 1, 1),
            swaps(),
            undo(0),
        ])), [
            1, -9,
            1, 0,
            3, 1, 1, 5,
            3, 1, 0, 1,
            2, 2, 1,
            3, 1, 24, 24,
            1, 18,
            2, 6, 10,
            1, 1,
            3, 9, 8, 16,
            1, 0,
            4, 3, 3, 5, 7,
            1, 0,
            1, -1,
            1, -1,
            1, -1,
            1, -2,
            1, -2,
            1, -2,
            1, -1,
            1, -1,
            1, -7,
            1, -2,
            1, 0,
            1, 0,
            5, 1, 1, 2, 1, 1,
            1, 0,
        ])

    def test_begin_is_read_to_the_end_of_its_lengths(self):
        for lengths in ([], [24], [12, 12], [3] * 8, [1] * 10, [0] * 10):
            with self.subTest(lengths=lengths):
                found = ask(begin(2, 0, lengths), begin(3, 2, [8, 8, 8]), day(0))
                self.assertEqual(found[1:], [[0], [2, 0, 1]])

    def test_sixty_calls(self):
        calls = [GOOD] + [hours(0, 0, 200), even(), rests(2)] * 19 + [day(200), turn_round()]
        self.assertEqual(len(calls), 60)
        self.assertEqual(ask(*calls)[-2:], [[0, 1, 2, 0, 1, 2, 0], [3, 1]])

    def test_only_whole_numbers_are_given_back(self):
        told = answers(line([day(0), GOOD, REFUSED, *ANSWERED, *NOT_ANSWERED, begin(4, 0, [3, 5, 4, 4, 4, 4]),
                             turn_round(), even()]))
        self.assertIs(type(told), list)
        self.assertEqual([number for number in told if type(number) is not int], [])

    def test_the_list_handed_in_is_as_it_was(self):
        calls = line([day(0), GOOD, REFUSED, *ANSWERED, *NOT_ANSWERED])
        handed = list(calls)
        told = answers(handed)
        self.assertEqual(handed, calls)
        self.assertEqual(answers(Untouched(calls)), told)

    def test_the_same_list_twice(self):
        calls = line([day(0), GOOD, *ANSWERED, *NOT_ANSWERED, swap(9, 0, 9, 1), swaps()])
        once = answers(calls)
        self.assertEqual(answers(calls), once)
        answers(line([begin(5, 4, [3] * 8), even(), swap(0, 0, 0, 2)]))
        self.assertEqual(answers(calls), once)

    def test_nothing_is_kept_for_the_next_list(self):
        answers(line([GOOD, swap(0, 0, 0, 1)]))
        self.assertEqual(answers(day(0)), [1, -9])
        self.assertEqual(ask(GOOD, swaps(), day(0)), [[0], [0], [1, 2, 0, 1, 2, 0, 1]])

    def test_what_is_given_back_is_the_caller_s(self):
        told = answers(line([GOOD, day(0)]))
        told.clear()
        self.assertEqual(answers(line([GOOD, day(0)])), [1, 0, 7, 1, 2, 0, 1, 2, 0, 1])


if __name__ == "__main__":
    unittest.main()
