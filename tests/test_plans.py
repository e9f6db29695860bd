"""Points 8 to 10, with answers reckoned by hand, and cuts beside all the ways written out."""

import itertools
import unittest

from tests.helper import comes, cuts, day, kinds, on_ship, turn_round

# Seven watches, three teams: a fair turn, which team 1 begins.
DOGS = (3, 1, [4, 4, 4, 2, 2, 4, 4])
# Six watches, four teams: a round of two days, not fair.
UNEVEN = (4, 0, [3, 5, 4, 4, 4, 4])


class Comes(unittest.TestCase):
    def test_the_day_itself(self):
        self.assertEqual(on_ship(DOGS, comes(1, 0, 0), comes(2, 1, 0), comes(1, 6, 0)), [[0], [0], [0]])
        self.assertEqual(on_ship(DOGS, comes(2, 0, 1), comes(0, 0, 200)), [[1], [200]])

    def test_a_later_day(self):
        self.assertEqual(on_ship(DOGS, comes(2, 0, 0), comes(0, 0, 0), comes(1, 0, 1), comes(0, 6, 0), comes(1, 6, 7)),
                         [[1], [2], [3], [2], [9]])
        self.assertEqual(on_ship(UNEVEN, comes(2, 0, 0), comes(0, 0, 1), comes(1, 1, 5)), [[1], [2], [6]])

    def test_a_day_beyond_200(self):
        self.assertEqual(on_ship(DOGS, comes(1, 0, 200), comes(2, 0, 200), comes(1, 0, 199)), [[201], [202], [201]])
        self.assertEqual(on_ship((5, 0, [1, 2, 3, 4, 5, 9]), comes(4, 0, 200), comes(4, 0, 199)), [[204], [199]])

    def test_no_such_team(self):
        self.assertEqual(on_ship(DOGS, comes(3, 0, 0), comes(9, 6, 200)), [[-2], [-2]])
        self.assertEqual(on_ship(DOGS, comes(3, 7, 0), comes(3, 0, 201), comes(9, 9, 300)), [[-2], [-2], [-2]])
        self.assertEqual(on_ship((2, 0, [12, 12]), comes(2, 0, 0), comes(1, 1, 0)), [[-2], [0]])

    def test_no_such_day_or_watch(self):
        self.assertEqual(on_ship(DOGS, comes(0, 0, 201), comes(0, 0, 300), comes(0, 7, 0), comes(0, 9, 200)),
                         [[-1]] * 4)
        self.assertEqual(on_ship((2, 0, [12, 12]), comes(0, 2, 0), comes(1, 0, 201), comes(0, 1, 300)), [[-1]] * 3)

    def test_never(self):
        self.assertEqual(on_ship((3, 0, [8, 8, 8]), comes(1, 0, 0), comes(0, 0, 7), comes(2, 0, 200), comes(0, 2, 0)),
                         [[-6], [7], [-6], [-6]])
        self.assertEqual(on_ship(UNEVEN, comes(1, 0, 0), comes(3, 0, 200), comes(0, 1, 3), comes(2, 5, 0)), [[-6]] * 4)
        self.assertEqual(on_ship((2, 1, [12, 12]), comes(0, 0, 0), comes(1, 1, 0)), [[-6], [-6]])

    def test_beside_the_days_that_are_told(self):
        for ship in [DOGS, UNEVEN, (5, 3, [10, 14]), (4, 2, [3] * 8), (4, 1, [10, 14]), (3, 2, [1, 2, 3, 5, 6, 7])]:
            teams, _, lengths = ship
            told = on_ship(ship, *[day(number) for number in range(10)])
            for watch in range(len(lengths)):
                for team in range(teams):
                    days = [number for number in range(3, 10) if told[number][watch] == team]
                    self.assertEqual(on_ship(ship, comes(team, watch, 3)), [[min(days, default=-6)]], ship)


class Cuts(unittest.TestCase):
    def answered(self, *cases):
        ship = (2, 0, [12, 12])
        for asked, answer in cases:
            self.assertEqual(on_ship(ship, cuts(*asked)), [answer], asked)

    def test_no_way(self):
        self.answered(((2, 13, 24), [0]), ((2, 1, 11), [0]), ((8, 4, 24), [0]), ((8, 1, 2), [0]), ((5, 5, 24), [0]),
                      ((2, 24, 24), [0]), ((2, 1, 0), [0]), ((7, 3, 3), [0]))

    def test_one_way(self):
        self.answered(((2, 12, 12), [1, 12, 12]), ((2, 12, 24), [1, 12, 12]), ((2, 1, 12), [1, 12, 12]),
                      ((8, 3, 3), [1] + [3] * 8), ((8, 3, 24), [1] + [3] * 8), ((3, 8, 9), [1, 8, 8, 8]))

    def test_least_for_the_front_watches(self):
        self.answered(((2, 1, 24), [23, 1, 23]), ((2, 1, 23), [23, 1, 23]), ((2, 5, 20), [15, 5, 19]),
                      ((3, 1, 24), [253, 1, 1, 22]), ((3, 7, 10), [10, 7, 7, 10]),
                      ((6, 3, 24), [462, 3, 3, 3, 3, 3, 9]))

    def test_most_does_not_let_it_be(self):
        self.answered(((2, 1, 22), [21, 2, 22]), ((2, 1, 13), [3, 11, 13]), ((3, 1, 10), [28, 4, 10, 10]),
                      ((3, 5, 10), [25, 5, 9, 10]), ((4, 2, 8), [149, 2, 6, 8, 8]))

    def test_least_above_most(self):
        self.answered(((2, 13, 11), [0]), ((2, 13, 12), [0]), ((3, 9, 8), [0]), ((8, 4, 3), [0]), ((2, 30, 24), [0]),
                      ((2, 25, 0), [0]))

    def test_the_most_ways(self):
        self.answered(((8, 1, 24), [245157, 1, 1, 1, 1, 1, 1, 1, 17]), ((8, 1, 17), [245157, 1, 1, 1, 1, 1, 1, 1, 17]),
                      ((8, 1, 16), [245149, 1, 1, 1, 1, 1, 1, 2, 16]))

    def test_refused(self):
        self.answered(((0, 1, 24), [-1]), ((1, 1, 24), [-1]), ((9, 1, 24), [-1]), ((10, 1, 24), [-1]),
                      ((1, 24, 24), [-1]), ((2, 0, 24), [-1]), ((8, 0, 3), [-1]), ((2, 0, 0), [-1]),
                      ((2, 1, 25), [-1]), ((2, 12, 30), [-1]), ((2, 30, 25), [-1]), ((9, 0, 25), [-1]))

    def test_all_the_ways_written_out(self):
        for watches in (2, 3, 4, 5):
            # Where a day is cut: between its 24 hours, 23 places.
            places = itertools.combinations(range(1, 24), watches - 1)
            ways = [[end - start for start, end in zip((0,) + cut, cut + (24,))] for cut in places]
            for least, most in itertools.product((1, 2, 3, 4, 5, 7, 12), (4, 5, 6, 8, 9, 12, 18, 23, 24)):
                good = [way for way in ways if min(way) >= least and max(way) <= most]
                self.answered(((watches, least, most), [len(good)] + min(good, default=[])))

    def test_whatever_the_ship(self):
        self.assertEqual(on_ship(DOGS, cuts(2, 5, 20)), on_ship((5, 4, [3] * 8), cuts(2, 5, 20)))


class Kinds(unittest.TestCase):
    def test_each_number_of_teams(self):
        for ship in [DOGS, (2, 0, [12, 12]), (5, 4, [3] * 8)]:
            self.assertEqual(on_ship(ship, kinds(2), kinds(3), kinds(4), kinds(5)),
                             [[3, 3, 5, 7], [5, 2, 4, 5, 7, 8], [3, 3, 5, 7], [6, 2, 3, 4, 6, 7, 8]])

    def test_refused(self):
        self.assertEqual(on_ship((2, 0, [12, 12]), *[kinds(teams) for teams in (0, 1, 6, 7, 8, 9)]), [[-1]] * 6)

    def test_beside_round(self):
        for teams in (2, 3, 4, 5):
            fair = [watches for watches in range(2, 9)
                    if on_ship((teams, 0, [1] * (watches - 1) + [25 - watches]), turn_round())[0][1] == 1]
            self.assertEqual(on_ship(DOGS, kinds(teams)), [[len(fair)] + fair])


if __name__ == "__main__":
    unittest.main()
