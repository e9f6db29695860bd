"""The calls on one ship's turn: how they are read from a list, and what each answers."""

from shipwatches.ship import DAY_HOURS, Ship, may_be_ship

LAST_DAY = 200

NOT_AS_TOLD = -1
NOT_THERE = -2
NO_SHIP = -9

BEGIN = 0
WHO = 1
DAY = 2
ROUND = 3
EVEN = 4
HOURS = 5
RESTS = 6

# How many whole numbers each call has behind its own number. Calls that have no answer yet
# stand here too, since without a ship they are refused like the others.
ARGUMENTS = (3, 2, 1, 0, 0, 3, 1, 3, 3, 1, 4, 1, 0)


def answer_who(ship, day, hour):
    if day > LAST_DAY or hour >= DAY_HOURS:
        return [NOT_AS_TOLD]
    watch = 0
    end = ship.lengths[0]
    while end <= hour:
        watch = watch + 1
        end = end + ship.lengths[watch]
    return [watch, ship.team_at(day, watch), end - hour]


def answer_day(ship, day):
    if day > LAST_DAY:
        return [NOT_AS_TOLD]
    return ship.teams_on(day)


def answer_round(ship):
    return [ship.round_days(), 1 if ship.is_fair() else 0]


def answer_even(ship):
    hours = ship.hours_in_round()
    return [1 if min(hours) == max(hours) else 0] + hours


def answer_hours(ship, team, begin_day, end_day):
    if not ship.has_team(team):
        return [NOT_THERE]
    if begin_day > LAST_DAY or end_day > LAST_DAY or end_day < begin_day:
        return [NOT_AS_TOLD]
    return [ship.hours_between(team, begin_day, end_day)]


def answer_rests(ship, team):
    if not ship.has_team(team):
        return [NOT_THERE]
    rests = ship.rests_of(team)
    return [min(rests), max(rests)]


def answer_of(ship, number, numbers):
    if number == WHO:
        return answer_who(ship, numbers[0], numbers[1])
    if number == DAY:
        return answer_day(ship, numbers[0])
    if number == ROUND:
        return answer_round(ship)
    if number == EVEN:
        return answer_even(ship)
    if number == HOURS:
        return answer_hours(ship, numbers[0], numbers[1], numbers[2])
    if number == RESTS:
        return answer_rests(ship, numbers[0])
    raise NotImplementedError("this call has no answer yet")


def end_of_call(calls, start):
    end = start + 1 + ARGUMENTS[calls[start]]
    if calls[start] == BEGIN:
        # The last of begin's three numbers tells how many lengths come behind it.
        end = end + calls[end - 1]
    return end


def ship_of(numbers):
    """The ship that a begin asks for, or None if there can't be such a one."""
    teams = numbers[0]
    first = numbers[1]
    lengths = numbers[3:]
    if not may_be_ship(teams, first, lengths):
        return None
    return Ship(teams, first, lengths)


def answers(calls):
    ship = None
    told = []
    start = 0
    while start < len(calls):
        end = end_of_call(calls, start)
        numbers = calls[start + 1:end]
        if calls[start] == BEGIN:
            begun = ship_of(numbers)
            answer = [NOT_AS_TOLD] if begun is None else [0]
            ship = ship if begun is None else begun
        elif ship is None:
            answer = [NO_SHIP]
        else:
            answer = answer_of(ship, calls[start], numbers)
        told.append(len(answer))
        told.extend(answer)
        start = end
    return told
