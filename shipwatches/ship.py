"""One ship: its teams, how its day is cut, and the turn that follows from both."""

DAY_HOURS = 24
FEWEST_TEAMS = 2
MOST_TEAMS = 5
FEWEST_WATCHES = 2
MOST_WATCHES = 8


def may_be_teams(teams):
    return teams >= FEWEST_TEAMS and teams <= MOST_TEAMS


def may_be_watches(watches):
    return watches >= FEWEST_WATCHES and watches <= MOST_WATCHES


def may_be_ship(teams, first, lengths):
    if not may_be_teams(teams) or first >= teams or not may_be_watches(len(lengths)):
        return False
    return min(lengths) > 0 and sum(lengths) == DAY_HOURS


def days_of_round(teams, watches):
    # The turn comes again when a day begins with the first team, as day 0 did.
    days = 1
    while days * watches % teams != 0:
        days = days + 1
    return days


def makes_fair_turn(teams, watches):
    # Within a round no two days begin with the same team, so nobody comes to a watch twice:
    # all come to it equally often only if a round has a day for each team.
    return days_of_round(teams, watches) == teams


class Ship:
    """A ship whose teams and watches are as the document allows.

    A watch's place is how many watches have gone by since day 0 began: the turn never
    breaks off at midnight, so that alone tells whose turn it is.
    """

    def __init__(self, teams, first, lengths):
        self.teams = teams
        self.first = first
        # A copy, so that nothing of the caller's is shared.
        self.lengths = list(lengths)

    def watches(self):
        return len(self.lengths)

    def has_team(self, team):
        return team < self.teams

    def has_watch(self, watch):
        return watch < self.watches()

    def place_of(self, day, watch):
        return day * self.watches() + watch

    def day_and_watch(self, place):
        return [place // self.watches(), place % self.watches()]

    def length_at(self, place):
        return self.lengths[place % self.watches()]

    def turn_at(self, place):
        return (self.first + place) % self.teams

    def round_days(self):
        return days_of_round(self.teams, self.watches())

    def is_fair(self):
        return makes_fair_turn(self.teams, self.watches())

    def places_in_round(self, team):
        end = self.place_of(self.round_days(), 0)
        return [place for place in range(end) if self.turn_at(place) == team]

    def hours_in_round(self, team):
        return sum([self.length_at(place) for place in self.places_in_round(team)])

    def rest_behind(self, place):
        # All the other teams stand one watch each before the same team's turn is again.
        return sum([self.length_at(place + step) for step in range(1, self.teams)])

    def rests_of(self, team):
        return [self.rest_behind(place) for place in self.places_in_round(team)]

    def day_it_comes(self, team, watch, day):
        """The first day, from that one on, on which the watch is the team's turn, or None."""
        # What doesn't come within as many days as a round has never comes.
        for later in range(day, day + self.round_days()):
            if self.turn_at(self.place_of(later, watch)) == team:
                return later
        return None
