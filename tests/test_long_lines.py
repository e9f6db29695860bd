"""Lines of 60 calls of all kinds, beside a ship whose watches are all written out day by day."""

import functools
import itertools
import unittest

from shipwatches.turn import answers
from tests.helper import (apart, begin, comes, cuts, day, even, hours, kinds, line, rests, swap, swaps, turn_round,
                          undo, who)

DAYS = 215
LINES = 400


@functools.lru_cache(maxsize=None)
def written_out(teams, first, count):
    """For each watch of the days the team whose turn it is: (day, watch) and team, in their order."""
    turn = itertools.islice(itertools.cycle(range(teams)), first, None)
    return [((number, watch), next(turn)) for number in range(DAYS) for watch in range(count)]


@functools.lru_cache(maxsize=None)
def all_cuts(count):
    places = itertools.combinations(range(1, 24), count - 1)
    return [[end - start for start, end in zip((0,) + cut, cut + (24,))] for cut in places]


class Model:
    """Answers each call by looking it up in what is written out."""

    def __init__(self):
        self.ship = None
        self.swapped = []

    def answer(self, call):
        name = ("begin", "who", "day", "round", "even", "hours", "rests", "comes", "cuts", "kinds", "swap", "undo",
                "swaps")[call[0]]
        if name == "begin":
            return self.begin(call[1], call[2], call[4:])
        return [-9] if self.ship is None else getattr(self, name)(*call[1:])

    def begin(self, teams, first, lengths):
        right = 2 <= teams <= 5 and first < teams and 2 <= len(lengths) <= 8
        if not right or 0 in lengths or sum(lengths) != 24:
            return [-1]
        self.ship, self.swapped = (teams, first, lengths), []
        return [0]

    def turn(self):
        return dict(written_out(self.ship[0], self.ship[1], len(self.ship[2])))

    def standing(self, swapped):
        turn = self.turn()
        stand = dict(turn)
        for a, b, c, d in swapped:
            stand[a, b], stand[c, d] = turn[c, d], turn[a, b]
        return stand

    def two_running(self, swapped):
        teams = list(self.standing(swapped).values())
        return any(one == other for one, other in zip(teams, teams[1:]))

    def who(self, number, hour):
        if number > 200 or hour > 23:
            return [-1]
        watches = [watch for watch, length in enumerate(self.ship[2]) for _ in range(length)]
        watch = watches[hour]
        return [watch, self.standing(self.swapped)[number, watch], watches[hour:].count(watch)]

    def day(self, number):
        if number > 200:
            return [-1]
        return [team for (on, _), team in self.standing(self.swapped).items() if on == number]

    def round_days(self):
        size, teams = len(self.ship[2]), list(self.turn().values())
        return next(days for days in range(1, 9) if teams[days * size:] == teams[:-days * size])

    def round(self):
        days = self.round_days()
        seen = [(watch, team) for (on, watch), team in self.turn().items() if on < days]
        counts = [{seen.count((watch, team)) for team in range(self.ship[0])} for watch in range(len(self.ship[2]))]
        return [days, int(all(len(count) == 1 for count in counts))]

    def summed(self, stand, team, a, b):
        own = [watch for (on, watch), stander in stand.items() if a <= on < b and stander == team]
        return sum(self.ship[2][watch] for watch in own)

    def even(self):
        found = [self.summed(self.turn(), team, 0, self.round_days()) for team in range(self.ship[0])]
        return [int(len(set(found)) == 1)] + found

    def hours(self, team, a, b):
        if team >= self.ship[0]:
            return [-2]
        if a > 200 or b > 200 or b < a:
            return [-1]
        return [self.summed(self.standing(self.swapped), team, a, b)]

    def rests(self, team):
        if team >= self.ship[0]:
            return [-2]
        stood = [stander for (_, watch), stander in self.turn().items() for _ in range(self.ship[2][watch])]
        gaps = [len(list(group)) for own, group in itertools.groupby(stood, lambda stander: stander == team) if not own]
        # Not those at the two ends, which aren't between two watches.
        return [min(gaps[1:-1]), max(gaps[1:-1])]

    def comes(self, team, watch, number):
        if team >= self.ship[0]:
            return [-2]
        if number > 200 or watch >= len(self.ship[2]):
            return [-1]
        turn = self.turn()
        return [next((on for on in range(number, DAYS) if turn[on, watch] == team), -6)]

    def cuts(self, count, least, most):
        if not 2 <= count <= 8 or least == 0 or most > 24:
            return [-1]
        good = [cut for cut in all_cuts(count) if min(cut) >= least and max(cut) <= most]
        return [len(good)] + min(good, default=[])

    def kinds(self, teams):
        if not 2 <= teams <= 5:
            return [-1]
        model, found = Model(), []
        for count in range(2, 9):
            model.ship = (teams, 0, [1] * count)
            found += [count] * model.round()[1]
        return [len(found)] + found

    def swap(self, a, b, c, d):
        size = len(self.ship[2])
        if a > 200 or c > 200 or b >= size or d >= size:
            return [-1]
        if len(self.swapped) == 6:
            return [-5]
        taken = [(one[0], one[1]) for one in self.swapped] + [(one[2], one[3]) for one in self.swapped]
        if (a, b) in taken or (c, d) in taken:
            return [-4]
        stand = self.standing(self.swapped)
        if stand[a, b] == stand[c, d]:
            return [-3]
        if self.two_running(self.swapped + [(a, b, c, d)]):
            return [-7]
        self.swapped = self.swapped + [(a, b, c, d)]
        return [len(self.swapped) - 1]

    def undo(self, number):
        if number >= len(self.swapped):
            return [-2]
        rest = [one for place, one in enumerate(self.swapped) if place != number]
        if self.two_running(rest):
            return [-7]
        self.swapped = rest
        return [len(rest)]

    def swaps(self):
        return [len(self.swapped)] + [number for one in self.swapped for number in one]


class Mixed:
    """Numbers in a mixed order that is the same each time."""

    def __init__(self, seed):
        self.state = seed

    def below(self, end):
        self.state = (self.state * 6364136223846793005 + 1442695040888963407) % 2 ** 64
        return (self.state >> 33) % end

    def one_of(self, *choices):
        return choices[self.below(len(choices))]

    def day(self, near):
        """Mostly a day by which exchanges come to lie side by side; also the last ones, and those that aren't there."""
        choice = self.below(40)
        if choice == 0:
            return self.one_of(201, 202, 255, 300)
        if choice < 4:
            return self.one_of(199, 200)
        return self.below(201) if choice < 7 else near + self.below(3)

    def watch(self, size):
        return self.below(10) if self.below(20) == 0 else self.below(size)

    def lengths(self):
        count = self.one_of(2, 3, 4, 5, 5, 6, 6, 7, 7, 8, 8)
        lengths = [1] * count
        while sum(lengths) < 24:
            lengths[self.below(count)] += 1
        return lengths

    def begin(self):
        teams = self.one_of(2, 3, 3, 4, 4, 5, 5, 5)
        return begin(teams, self.below(teams), self.lengths())

    def wrong_begin(self):
        teams, first, lengths = self.below(10), self.below(10), self.lengths()
        lengths = self.one_of(lengths, [], [24], lengths + [0], lengths[1:], [3] * 8 + [0, 0], [24, 24])
        return begin(teams, first, lengths)

    def call(self, near, size):
        choice = self.below(100)
        if choice < 45:
            return swap(self.day(near), self.watch(size), self.day(near), self.watch(size))
        if choice < 52:
            return undo(self.one_of(0, 0, 0, 1, 1, 2, 3, 4, 5, 6, 9))
        a, b = self.day(near), self.day(near)
        return self.one_of(
            swaps(), swaps(), who(a, self.below(26)), who(a, self.below(24)), day(a), day(a),
            hours(self.below(6), min(a, b), max(a, b) + 1), hours(self.below(9), a, b), turn_round(), even(),
            rests(self.below(6)), comes(self.below(6), self.watch(size), a), kinds(self.below(8)),
            cuts(self.below(7), self.below(6), self.below(27)), cuts(self.below(11), self.below(31), self.below(31)))

    def line(self):
        near = self.one_of(0, 0, 3, 198)
        calls = [self.call(near, 8) for _ in range(self.below(3))] + [self.begin()]
        while len(calls) < 60:
            size = [call for call in calls if call[0] == 0][-1][3]
            choice = self.below(120)
            if choice < 2:
                calls.append(self.begin())
            else:
                calls.append(self.call(near, max(size, 2)))
            if choice == 2 and len(calls) < 60:
                calls.append(self.wrong_begin())
        return calls


class LongLines(unittest.TestCase):
    def test_beside_what_is_written_out(self):
        met = set()
        for seed in range(LINES):
            calls = Mixed(seed).line()
            handed = line(calls)
            copy = list(handed)
            told = answers(handed)
            self.assertEqual(handed, copy)
            self.assertEqual(answers(handed), told)
            model = Model()
            for place, (call, answer) in enumerate(zip(calls, apart(told, 60))):
                self.assertEqual(answer, model.answer(call), (seed, place, call, calls[:place]))
                met.add((call[0], min(answer[0], 0)))
                if call[0] in (10, 11):
                    met.add((call[0], answer[0]))
        # Each call was answered and was refused in each way that there is.
        self.assertLessEqual({(number, 0) for number in range(13)}, met)
        self.assertLessEqual({(number, -9) for number in range(1, 13)}, met)
        self.assertLessEqual({(0, -1), (1, -1), (2, -1), (5, -2), (5, -1), (6, -2), (7, -2), (7, -1), (7, -6),
                              (8, -1), (9, -1), (10, -1), (10, -5), (10, -4), (10, -3), (10, -7), (11, -2),
                              (11, -7)}, met)
        self.assertLessEqual({(10, number) for number in range(6)} | {(11, number) for number in range(6)}, met)

    def test_the_longest_answers(self):
        calls = [begin(5, 0, [3] * 8)] + [swap(number, 0, number, 2) for number in range(6)] + [swaps()] * 53
        self.assertEqual(apart(answers(line(calls)), 60)[7:],
                         [[6] + [number for on in range(6) for number in (on, 0, on, 2)]] * 53)


if __name__ == "__main__":
    unittest.main()
