"""One ship: its teams, how its day is cut, and the turn that follows from both."""

DAY_HOURS = 24
FEWEST_TEAMS = 2
MOST_TEAMS = 5
FEWEST_WATCHES = 2
MOST_WATCHES = 8


class Ship:
    """A ship whose teams and watches are as the document allows."""

    def __init__(self, teams, first, lengths):
        self.teams = teams
        self.first = first
        # A copy, so that nothing of the caller's is shared.
        self.lengths = list(lengths)

    def watches(self):
        return len(self.lengths)

    def has_team(self, team):
        return team < self.teams

    def team_at(self, day, watch):
        # The turn never breaks off at midnight, so only the watches gone by since day 0 count.
        gone_by = day * self.watches() + watch
        return (self.first + gone_by) % self.teams

    def teams_on(self, day):
        return [self.team_at(day, watch) for watch in range(self.watches())]

    def hours_on(self, team, day):
        return sum([self.lengths[watch] for watch in range(self.watches()) if self.team_at(day, watch) == team])

    def hours_between(self, team, begin_day, end_day):
        return sum([self.hours_on(team, day) for day in range(begin_day, end_day)])

    def round_days(self):
        # The turn comes again when a day begins with the first team, as day 0 did.
        days = 1
        while self.team_at(days, 0) != self.first:
            days = days + 1
        return days

    def is_fair(self):
        # Within a round no two days begin with the same team, so nobody comes to a watch twice:
        # all come to it equally often only if a round has a day for each team.
        return self.round_days() == self.teams

    def hours_in_round(self):
        days = self.round_days()
        return [self.hours_between(team, 0, days) for team in range(self.teams)]

    def rest_behind(self, watch):
        # All the other teams stand one watch each before the same team's turn is again.
        following = [(watch + step) % self.watches() for step in range(1, self.teams)]
        return sum([self.lengths[other] for other in following])

    def watches_in_round(self, team):
        """The watches that are this team's turn in a round, in their order."""
        found = []
        for day in range(self.round_days()):
            found.extend([watch for watch in range(self.watches()) if self.team_at(day, watch) == team])
        return found

    def rests_of(self, team):
        return [self.rest_behind(watch) for watch in self.watches_in_round(team)]


def may_be_ship(teams, first, lengths):
    if teams < FEWEST_TEAMS or teams > MOST_TEAMS or first >= teams:
        return False
    if len(lengths) < FEWEST_WATCHES or len(lengths) > MOST_WATCHES:
        return False
    return min(lengths) > 0 and sum(lengths) == DAY_HOURS
