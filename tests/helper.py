"""Calls as lists of numbers, and answers taken apart again."""

from shipwatches.turn import answers


def begin(teams, first, lengths):
    return [0, teams, first, len(lengths)] + list(lengths)


def who(day, hour):
    return [1, day, hour]


def day(number):
    return [2, number]


def turn_round():
    return [3]


def even():
    return [4]


def hours(team, a, b):
    return [5, team, a, b]


def rests(team):
    return [6, team]


def comes(team, watch, day):
    return [7, team, watch, day]


def cuts(watches, least, most):
    return [8, watches, least, most]


def kinds(teams):
    return [9, teams]


def swap(day, watch, otherday, other):
    return [10, day, watch, otherday, other]


def undo(exchange):
    return [11, exchange]


def swaps():
    return [12]


def line(calls):
    return [number for call in calls for number in call]


def apart(told, count):
    """The answers, one list each; an error if there aren't exactly so many."""
    found = []
    place = 0
    while place < len(told):
        size = told[place]
        if size < 1 or place + 1 + size > len(told):
            raise AssertionError(f"no answer of {size} numbers at {place} in {told}")
        found.append(told[place + 1:place + 1 + size])
        place += 1 + size
    if len(found) != count:
        raise AssertionError(f"{len(found)} answers to {count} calls")
    return found


def ask(*calls):
    return apart(answers(line(calls)), len(calls))


def on_ship(ship, *calls):
    """What the calls answer behind a begin that must be taken."""
    found = ask(begin(*ship), *calls)
    if found[0] != [0]:
        raise AssertionError(f"begin of {ship} answered {found[0]}")
    return found[1:]
