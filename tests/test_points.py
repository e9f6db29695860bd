"""Points 1 to 7, with answers reckoned by hand."""

import unittest

from tests.helper import ask, begin, day, even, hours, on_ship, rests, turn_round, who

# Seven watches, as with two dog watches; a fair turn, which team 1 begins.
DOGS = (3, 1, [4, 4, 4, 2, 2, 4, 4])
# Six watches and four teams: a round of two days, not fair.
UNEVEN = (4, 0, [3, 5, 4, 4, 4, 4])


class Begin(unittest.TestCase):
    def taken(self, *ship):
        self.assertEqual(ask(begin(*ship), turn_round())[0], [0], ship)
        self.assertNotEqual(ask(begin(*ship), turn_round())[1], [-9], ship)

    def refused(self, *ship):
        self.assertEqual(ask(begin(*ship), turn_round()), [[-1], [-9]], ship)

    def test_teams(self):
        for teams in (2, 3, 4, 5):
            self.taken(teams, 0, [12, 12])
        for teams in (0, 1, 6, 7, 8, 9):
            self.refused(teams, 0, [12, 12])

    def test_first(self):
        for teams in (2, 3, 4, 5):
            for first in range(10):
                if first < teams:
                    self.taken(teams, first, [8, 16])
                else:
                    self.refused(teams, first, [8, 16])

    def test_watches(self):
        self.taken(2, 0, [12, 12])
        self.taken(2, 0, [1, 23])
        self.taken(2, 0, [3] * 8)
        self.taken(2, 0, [17] + [1] * 7)
        self.refused(2, 0, [])
        self.refused(2, 0, [24])
        self.refused(2, 0, [3] * 7 + [2, 1])
        self.refused(2, 0, [3] * 6 + [2, 2, 1, 1])

    def test_a_watch_of_no_hours(self):
        self.refused(2, 0, [0, 24])
        self.refused(2, 0, [24, 0])
        self.refused(2, 0, [12, 0, 12])
        self.refused(2, 0, [0, 0])

    def test_hours_together(self):
        self.refused(2, 0, [12, 11])
        self.refused(2, 0, [12, 13])
        self.refused(2, 0, [24, 24])
        self.refused(2, 0, [1] * 8)
        self.refused(2, 0, [3] * 7)

    def test_a_second_one_stands_instead(self):
        found = ask(begin(*DOGS), day(0), begin(2, 0, [5, 19]), day(0), who(0, 5), even(), rests(1), rests(2))
        self.assertEqual(found, [[0], [1, 2, 0, 1, 2, 0, 1], [0], [0, 1], [1, 1, 19], [0, 5, 19], [5, 5], [-2]])


class Who(unittest.TestCase):
    def test_first_and_last_hour_of_each_watch(self):
        expected = {0: [0, 1, 4], 3: [0, 1, 1], 4: [1, 2, 4], 7: [1, 2, 1], 8: [2, 0, 4], 11: [2, 0, 1],
                    12: [3, 1, 2], 13: [3, 1, 1], 14: [4, 2, 2], 15: [4, 2, 1], 16: [5, 0, 4], 19: [5, 0, 1],
                    20: [6, 1, 4], 23: [6, 1, 1]}
        for hour, answer in expected.items():
            self.assertEqual(on_ship(DOGS, who(0, hour)), [answer], hour)

    def test_within_a_watch(self):
        self.assertEqual(on_ship(DOGS, who(0, 1), who(0, 2), who(0, 21)), [[0, 1, 3], [0, 1, 2], [6, 1, 3]])

    def test_a_watch_of_one_hour(self):
        ship = (2, 0, [1, 22, 1])
        self.assertEqual(on_ship(ship, who(0, 0), who(0, 1), who(0, 22), who(0, 23), who(1, 0)),
                         [[0, 0, 1], [1, 1, 22], [1, 1, 1], [2, 0, 1], [0, 1, 1]])

    def test_later_days(self):
        self.assertEqual(on_ship(DOGS, who(1, 0), who(2, 23), who(3, 0), who(200, 0), who(200, 23)),
                         [[0, 2, 4], [6, 0, 1], [0, 1, 4], [0, 0, 4], [6, 0, 1]])

    def test_refused(self):
        self.assertEqual(on_ship(DOGS, who(0, 24), who(0, 30), who(201, 0), who(300, 23), who(201, 24), who(200, 24)),
                         [[-1]] * 6)


class Day(unittest.TestCase):
    def test_days(self):
        self.assertEqual(on_ship(DOGS, day(0), day(1), day(2), day(3), day(200)), [
            [1, 2, 0, 1, 2, 0, 1],
            [2, 0, 1, 2, 0, 1, 2],
            [0, 1, 2, 0, 1, 2, 0],
            [1, 2, 0, 1, 2, 0, 1],
            [0, 1, 2, 0, 1, 2, 0],
        ])

    def test_fewer_watches_than_teams(self):
        self.assertEqual(on_ship((5, 4, [10, 14]), day(0), day(1), day(2), day(199), day(200)),
                         [[4, 0], [1, 2], [3, 4], [2, 3], [4, 0]])

    def test_refused(self):
        self.assertEqual(on_ship(DOGS, day(201), day(300)), [[-1], [-1]])


class Round(unittest.TestCase):
    def test_one_day(self):
        self.assertEqual(on_ship((2, 1, [12, 12]), turn_round()), [[1, 0]])
        self.assertEqual(on_ship((3, 0, [8, 8, 8]), turn_round()), [[1, 0]])
        self.assertEqual(on_ship((3, 2, [4] * 6), turn_round()), [[1, 0]])
        self.assertEqual(on_ship((4, 3, [3] * 8), turn_round()), [[1, 0]])

    def test_several_days_and_fair(self):
        self.assertEqual(on_ship((2, 0, [8, 8, 8]), turn_round()), [[2, 1]])
        self.assertEqual(on_ship(DOGS, turn_round()), [[3, 1]])
        self.assertEqual(on_ship((4, 1, [1, 1, 22]), turn_round()), [[4, 1]])
        self.assertEqual(on_ship((5, 4, [10, 14]), turn_round()), [[5, 1]])
        self.assertEqual(on_ship((5, 4, [3] * 8), turn_round()), [[5, 1]])

    def test_several_days_and_not_fair(self):
        self.assertEqual(on_ship(UNEVEN, turn_round()), [[2, 0]])
        self.assertEqual(on_ship((4, 3, [10, 14]), turn_round()), [[2, 0]])


class Even(unittest.TestCase):
    def test_fair_and_even(self):
        self.assertEqual(on_ship(DOGS, even()), [[1, 24, 24, 24]])
        self.assertEqual(on_ship((5, 2, [10, 14]), even()), [[1, 24, 24, 24, 24, 24]])

    def test_even_though_not_fair(self):
        self.assertEqual(on_ship((2, 1, [12, 12]), turn_round(), even()), [[1, 0], [1, 12, 12]])
        self.assertEqual(on_ship((4, 0, [4] * 6), turn_round(), even()), [[2, 0], [1, 12, 12, 12, 12]])
        self.assertEqual(on_ship((2, 0, [5, 4, 7, 8]), turn_round(), even()), [[1, 0], [1, 12, 12]])

    def test_not_even(self):
        self.assertEqual(on_ship(UNEVEN, even()), [[0, 11, 13, 11, 13]])
        self.assertEqual(on_ship((4, 1, [3, 5, 4, 4, 4, 4]), even()), [[0, 13, 11, 13, 11]])
        self.assertEqual(on_ship((2, 1, [1, 23]), even()), [[0, 23, 1]])

    def test_one_team_alone_differs(self):
        self.assertEqual(on_ship((3, 0, [8, 7, 9]), even()), [[0, 8, 7, 9]])
        self.assertEqual(on_ship((3, 0, [7, 7, 10]), even()), [[0, 7, 7, 10]])
        self.assertEqual(on_ship((3, 0, [10, 7, 7]), even()), [[0, 10, 7, 7]])


class Hours(unittest.TestCase):
    def test_no_days(self):
        self.assertEqual(on_ship(DOGS, hours(0, 0, 0), hours(1, 7, 7), hours(2, 200, 200)), [[0], [0], [0]])

    def test_one_day(self):
        self.assertEqual(on_ship(DOGS, hours(0, 0, 1), hours(1, 0, 1), hours(2, 0, 1)), [[8], [10], [6]])
        self.assertEqual(on_ship(DOGS, hours(0, 1, 2), hours(1, 1, 2), hours(2, 1, 2)), [[6], [8], [10]])
        self.assertEqual(on_ship(DOGS, hours(0, 199, 200), hours(1, 199, 200)), [[6], [8]])

    def test_several_days(self):
        self.assertEqual(on_ship(DOGS, hours(0, 0, 2), hours(0, 0, 3), hours(0, 1, 4), hours(1, 0, 200)),
                         [[14], [24], [24], [66 * 24 + 18]])

    def test_a_day_on_which_the_team_does_not_stand(self):
        self.assertEqual(on_ship((5, 0, [10, 14]), hours(4, 0, 2), hours(4, 2, 3), hours(4, 0, 5)), [[0], [10], [24]])

    def test_no_such_team(self):
        self.assertEqual(on_ship(DOGS, hours(3, 0, 1), hours(9, 0, 1)), [[-2], [-2]])
        self.assertEqual(on_ship(DOGS, hours(3, 201, 202), hours(3, 0, 201), hours(9, 5, 4)), [[-2], [-2], [-2]])
        self.assertEqual(on_ship((5, 0, [12, 12]), hours(4, 0, 5), hours(5, 0, 5)), [[24], [-2]])

    def test_no_such_days(self):
        self.assertEqual(on_ship(DOGS, hours(0, 0, 201), hours(0, 200, 201), hours(0, 201, 201), hours(0, 300, 300)),
                         [[-1]] * 4)
        self.assertEqual(on_ship(DOGS, hours(0, 1, 0), hours(2, 200, 199), hours(0, 201, 0)), [[-1]] * 3)


class Rests(unittest.TestCase):
    def test_shortest_and_longest(self):
        self.assertEqual(on_ship(DOGS, rests(0), rests(1), rests(2)), [[4, 8]] * 3)

    def test_each_team_its_own(self):
        self.assertEqual(on_ship((3, 0, [1, 2, 3, 5, 6, 7]), rests(0), rests(1), rests(2)), [[5, 13], [8, 8], [3, 11]])
        self.assertEqual(on_ship((3, 1, [1, 2, 3, 5, 6, 7]), rests(0), rests(1), rests(2)), [[3, 11], [5, 13], [8, 8]])

    def test_the_next_watch_is_on_the_next_day(self):
        self.assertEqual(on_ship((2, 0, [1, 23]), rests(0), rests(1)), [[23, 23], [1, 1]])
        self.assertEqual(on_ship((2, 1, [1, 23]), rests(0), rests(1)), [[1, 1], [23, 23]])
        self.assertEqual(on_ship((2, 0, [9, 1, 2, 12]), rests(0), rests(1)), [[1, 12], [2, 9]])

    def test_a_rest_that_comes_only_later_in_a_round(self):
        self.assertEqual(on_ship((2, 0, [2, 10, 12]), rests(0), rests(1)), [[2, 12], [2, 12]])

    def test_fewer_watches_than_teams(self):
        self.assertEqual(on_ship((5, 0, [4, 8, 12]), rests(0), rests(4)), [[28, 36], [28, 36]])
        self.assertEqual(on_ship((5, 3, [10, 14]), rests(0), rests(4)), [[48, 48], [48, 48]])
        self.assertEqual(on_ship((4, 0, [10, 14]), rests(0), rests(1), rests(2), rests(3)),
                         [[38, 38], [34, 34], [38, 38], [34, 34]])
        self.assertEqual(on_ship((4, 1, [10, 14]), rests(0), rests(1)), [[34, 34], [38, 38]])

    def test_no_such_team(self):
        self.assertEqual(on_ship(DOGS, rests(3), rests(9)), [[-2], [-2]])
        self.assertEqual(on_ship((2, 0, [12, 12]), rests(1), rests(2)), [[12, 12], [-2]])


if __name__ == "__main__":
    unittest.main()
