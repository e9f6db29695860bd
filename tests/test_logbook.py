"""The calls beside a logbook that is written hour by hour, with no arithmetic of the turn."""

import unittest

from tests.helper import day, even, hours, on_ship, rests, turn_round, who

DAYS = 201
CUTS = [
    [12, 12], [1, 23], [23, 1], [10, 14], [8, 8, 8], [4, 8, 12], [1, 1, 22], [6, 6, 6, 6], [5, 4, 7, 8],
    [9, 1, 2, 12], [4, 5, 5, 5, 5], [1, 2, 3, 4, 14], [4, 4, 4, 4, 4, 4], [3, 5, 4, 4, 4, 4], [1, 2, 3, 5, 6, 7],
    [4, 4, 4, 2, 2, 4, 4], [1, 1, 1, 1, 1, 1, 18], [3, 3, 3, 3, 3, 3, 3, 3], [17, 1, 1, 1, 1, 1, 1, 1],
    [1, 2, 3, 4, 5, 4, 3, 2],
]
SHIPS = [(teams, first, cut) for teams in (2, 3, 4, 5) for first in range(teams) for cut in CUTS]


def logbook(teams, first, cut):
    """A row for each hour: the day, the hour, the watch, its team, the hours of it that are left."""
    rows = []
    team = first
    for number in range(DAYS):
        hour = 0
        for watch, length in enumerate(cut):
            for left in range(length, 0, -1):
                rows.append((number, hour, watch, team, left))
                hour += 1
            team = 0 if team == teams - 1 else team + 1
    return rows


def stood(rows):
    """The logbook's watches: when each begins and ends, in hours from day 0 on, and who stands it."""
    watches = []
    for place, (number, _, watch, team, left) in enumerate(rows):
        if not watches or watches[-1]["key"] != (number, watch):
            watches.append({"key": (number, watch), "begin": place, "end": place + left, "team": team})
    return watches


def days_of_round(watches, cut):
    teams = [row["team"] for row in watches]
    size = len(cut)
    return next(days for days in range(1, 21) if teams[days * size:] == teams[:len(teams) - days * size])


class Logbook(unittest.TestCase):
    def test_who_and_day(self):
        for ship in SHIPS:
            rows = logbook(*ship)
            for number in (0, 1, 2, 5, 199, 200):
                page = rows[24 * number:24 * number + 24]
                answers = on_ship(ship, day(number), *[who(number, hour) for hour in range(24)])
                self.assertEqual(answers[0], [team for _, _, _, team, left in page if left == 1], ship)
                self.assertEqual(answers[1:], [[watch, team, left] for _, _, watch, team, left in page], ship)

    def test_round_and_even(self):
        for ship in SHIPS:
            teams, _, cut = ship
            rows = logbook(*ship)
            watches = stood(rows)
            days = days_of_round(watches, cut)
            keys = [(row["key"][1], row["team"]) for row in watches if row["key"][0] < days]
            fair = all(keys.count((watch, team)) == keys.count((watch, 0))
                       for watch in range(len(cut)) for team in range(teams))
            inside = [row[3] for row in rows if row[0] < days]
            counted = [inside.count(team) for team in range(teams)]
            is_even = len(set(counted)) == 1
            self.assertEqual(on_ship(ship, turn_round(), even()), [[days, int(fair)], [int(is_even)] + counted], ship)

    def test_hours(self):
        spans = [(0, 0), (0, 1), (0, 3), (2, 9), (7, 8), (100, 200), (199, 200), (200, 200)]
        for ship in SHIPS:
            rows = logbook(*ship)
            for team in range(ship[0]):
                expected = [[sum(row[3] == team for row in rows[24 * a:24 * b])] for a, b in spans]
                self.assertEqual(on_ship(ship, *[hours(team, a, b) for a, b in spans]), expected, ship)

    def test_rests(self):
        for ship in SHIPS:
            watches = stood(logbook(*ship))
            for team in range(ship[0]):
                own = [row for row in watches if row["team"] == team]
                gaps = [later["begin"] - row["end"] for row, later in zip(own, own[1:])]
                self.assertEqual(on_ship(ship, rests(team)), [[min(gaps), max(gaps)]], ship)


if __name__ == "__main__":
    unittest.main()
