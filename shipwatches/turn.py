"""The calls on one ship's turn: how they are read from a list, and what each answers."""

from shipwatches.cutting import count_of_cuts, fair_kinds, first_cut
from shipwatches.roster import Roster
from shipwatches.ship import DAY_HOURS, Ship, may_be_ship, may_be_teams, may_be_watches

LAST_DAY = 200

NOT_AS_TOLD = -1
NOT_THERE = -2
SAME_TEAM = -3
EXCHANGED_ALREADY = -4
ALL_EXCHANGES_STAND = -5
NEVER = -6
TWO_RUNNING = -7
NO_SHIP = -9

BEGIN = 0
WHO = 1
DAY = 2
ROUND = 3
EVEN = 4
HOURS = 5
RESTS = 6
COMES = 7
CUTS = 8
KINDS = 9
SWAP = 10
UNDO = 11
SWAPS = 12

# How many whole numbers each call has behind its own number.
ARGUMENTS = (3, 2, 1, 0, 0, 3, 1, 3, 3, 1, 4, 1, 0)


def answer_who(roster, day, hour):
    if day > LAST_DAY or hour >= DAY_HOURS:
        return [NOT_AS_TOLD]
    ship = roster.ship
    watch = 0
    end = ship.lengths[0]
    while end <= hour:
        watch = watch + 1
        end = end + ship.lengths[watch]
    return [watch, roster.team_at(ship.place_of(day, watch)), end - hour]


def answer_day(roster, day):
    if day > LAST_DAY:
        return [NOT_AS_TOLD]
    return roster.teams_on(day)


def answer_round(ship):
    return [ship.round_days(), 1 if ship.is_fair() else 0]


def answer_even(ship):
    hours = [ship.hours_in_round(team) for team in range(ship.teams)]
    return [1 if min(hours) == max(hours) else 0] + hours


def answer_hours(roster, team, begin_day, end_day):
    if not roster.ship.has_team(team):
        return [NOT_THERE]
    if begin_day > LAST_DAY or end_day > LAST_DAY or end_day < begin_day:
        return [NOT_AS_TOLD]
    return [roster.hours_between(team, begin_day, end_day)]


def answer_rests(ship, team):
    if not ship.has_team(team):
        return [NOT_THERE]
    rests = ship.rests_of(team)
    return [min(rests), max(rests)]


def is_watch_of(ship, day, watch):
    return day <= LAST_DAY and ship.has_watch(watch)


def answer_comes(ship, team, watch, day):
    if not ship.has_team(team):
        return [NOT_THERE]
    if not is_watch_of(ship, day, watch):
        return [NOT_AS_TOLD]
    found = ship.day_it_comes(team, watch, day)
    return [NEVER] if found is None else [found]


def answer_cuts(watches, least, most):
    if not may_be_watches(watches) or least == 0 or most > DAY_HOURS:
        return [NOT_AS_TOLD]
    count = count_of_cuts(watches, least, most)
    if count == 0:
        return [0]
    return [count] + first_cut(watches, least, most)


def answer_kinds(teams):
    if not may_be_teams(teams):
        return [NOT_AS_TOLD]
    kinds = fair_kinds(teams)
    return [len(kinds)] + kinds


def answer_swap(roster, numbers):
    ship = roster.ship
    if not is_watch_of(ship, numbers[0], numbers[1]) or not is_watch_of(ship, numbers[2], numbers[3]):
        return [NOT_AS_TOLD]
    if roster.is_full():
        return [ALL_EXCHANGES_STAND]
    place = ship.place_of(numbers[0], numbers[1])
    other = ship.place_of(numbers[2], numbers[3])
    if roster.is_exchanged(place) or roster.is_exchanged(other):
        return [EXCHANGED_ALREADY]
    if roster.team_at(place) == roster.team_at(other):
        return [SAME_TEAM]
    number = len(roster.exchanges)
    exchanges = roster.exchanges + [(place, other)]
    return answer_change(roster, exchanges, number)


def answer_undo(roster, number):
    if number >= len(roster.exchanges):
        return [NOT_THERE]
    exchanges = roster.exchanges[:number] + roster.exchanges[number + 1:]
    return answer_change(roster, exchanges, len(exchanges))


def answer_change(roster, exchanges, answer):
    # Tried on a roster of their own first, since a refusal changes nothing.
    if Roster(roster.ship, exchanges).somebody_stands_twice():
        return [TWO_RUNNING]
    roster.take(exchanges)
    return [answer]


def answer_swaps(roster):
    told = [len(roster.exchanges)]
    for pair in roster.exchanges:
        told.extend(roster.ship.day_and_watch(pair[0]))
        told.extend(roster.ship.day_and_watch(pair[1]))
    return told


def answer_of(roster, number, numbers):
    if number == WHO:
        return answer_who(roster, numbers[0], numbers[1])
    if number == DAY:
        return answer_day(roster, numbers[0])
    if number == HOURS:
        return answer_hours(roster, numbers[0], numbers[1], numbers[2])
    if number == SWAP:
        return answer_swap(roster, numbers)
    if number == UNDO:
        return answer_undo(roster, numbers[0])
    if number == SWAPS:
        return answer_swaps(roster)
    if number == CUTS:
        return answer_cuts(numbers[0], numbers[1], numbers[2])
    if number == KINDS:
        return answer_kinds(numbers[0])
    return answer_of_turn(roster.ship, number, numbers)


def answer_of_turn(ship, number, numbers):
    """What the turn alone answers, as if nothing were exchanged: round, even, rests, comes."""
    if number == ROUND:
        return answer_round(ship)
    if number == EVEN:
        return answer_even(ship)
    if number == RESTS:
        return answer_rests(ship, numbers[0])
    return answer_comes(ship, numbers[0], numbers[1], numbers[2])


def end_of_call(calls, start):
    end = start + 1 + ARGUMENTS[calls[start]]
    if calls[start] == BEGIN:
        # The last of begin's three numbers tells how many lengths come behind it.
        end = end + calls[end - 1]
    return end


def roster_of(numbers):
    """The ship that a begin asks for, without exchanges, or None if there can't be such a one."""
    teams = numbers[0]
    first = numbers[1]
    lengths = numbers[3:]
    if not may_be_ship(teams, first, lengths):
        return None
    return Roster(Ship(teams, first, lengths), [])


def answers(calls):
    roster = None
    told = []
    start = 0
    while start < len(calls):
        end = end_of_call(calls, start)
        numbers = calls[start + 1:end]
        if calls[start] == BEGIN:
            begun = roster_of(numbers)
            answer = [NOT_AS_TOLD] if begun is None else [0]
            roster = roster if begun is None else begun
        elif roster is None:
            answer = [NO_SHIP]
        else:
            answer = answer_of(roster, calls[start], numbers)
        told.append(len(answer))
        told.extend(answer)
        start = end
    return told
