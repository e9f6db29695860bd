"""Who stands on one ship when some of its watches are exchanged."""

MOST_EXCHANGES = 6


def partners_of(exchanges):
    """For each place that is exchanged the one it is exchanged for."""
    partners = {}
    for pair in exchanges:
        partners[pair[0]] = pair[1]
        partners[pair[1]] = pair[0]
    return partners


class Roster:
    """A ship's turn with the exchanges that stand, in their order: pairs of places."""

    def __init__(self, ship, exchanges):
        self.ship = ship
        self.exchanges = list(exchanges)
        self.partners = partners_of(exchanges)

    def take(self, exchanges):
        self.exchanges = list(exchanges)
        self.partners = partners_of(exchanges)

    def is_full(self):
        return len(self.exchanges) == MOST_EXCHANGES

    def is_exchanged(self, place):
        return place in self.partners

    def team_at(self, place):
        return self.ship.turn_at(self.partners.get(place, place))

    def teams_on(self, day):
        return [self.team_at(self.ship.place_of(day, watch)) for watch in range(self.ship.watches())]

    def hours_between(self, team, begin_day, end_day):
        begin = self.ship.place_of(begin_day, 0)
        end = self.ship.place_of(end_day, 0)
        return sum([self.ship.length_at(place) for place in range(begin, end) if self.team_at(place) == team])

    def stands_twice_at(self, place):
        """Whether this watch's team stands the one ahead of it or the one behind it too."""
        team = self.team_at(place)
        # Nothing lies ahead of day 0's watch 0; behind day 200's last one the turn goes on.
        return (place > 0 and self.team_at(place - 1) == team) or self.team_at(place + 1) == team

    def somebody_stands_twice(self):
        # In the turn alone nobody does, so one of such two watches is always an exchanged one.
        return any([self.stands_twice_at(place) for place in self.partners])
