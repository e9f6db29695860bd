"""How a day can be cut into watches."""

from shipwatches.ship import DAY_HOURS, FEWEST_WATCHES, MOST_WATCHES, makes_fair_turn


def ways_with_one_more(ways, hours, least, most):
    """In how many ways so many hours are cut, if ways tells it for one watch less."""
    return sum([ways[hours - length] for length in range(least, min(most, hours) + 1)])


def count_of_cuts(watches, least, most):
    # Counted hour by hour and not cut by cut: there may be hundreds of thousands of cuts.
    ways = [1] + [0] * DAY_HOURS
    for done in range(watches):
        ways = [ways_with_one_more(ways, hours, least, most) for hours in range(DAY_HOURS + 1)]
    return ways[DAY_HOURS]


def first_cut(watches, least, most):
    """The first way to cut a day, where there is one."""
    cut = []
    left = DAY_HOURS
    while len(cut) < watches:
        # A watch is as short as may be, but what it leaves must go into those behind it.
        behind = watches - len(cut) - 1
        length = max(least, left - behind * most)
        cut.append(length)
        left = left - length
    return cut


def fair_kinds(teams):
    return [watches for watches in range(FEWEST_WATCHES, MOST_WATCHES + 1) if makes_fair_turn(teams, watches)]
