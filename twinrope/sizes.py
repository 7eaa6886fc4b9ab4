"""How large kinds are, and what meets in them (points 35 and 36)."""

from math import comb

from twinrope.arrows import dead_ropes
from twinrope.books import books_of
from twinrope.errors import TooMany
from twinrope.homeward import homeward_row, homeward_standing, tree_ways
from twinrope.standings import MOST_LISTED, check_cars, every_cars, shares, standing_of_key

MOST_FREE_ROPES = 14


def size_by_cars(standing, cars):
    check_cars(standing.net, cars)
    if any([cars[rope] != standing.cars[rope] for rope in dead_ropes(standing)]):
        return 0
    return ways_with(standing, books_of(standing).entries, cars)


def ways_with(standing, entries, cars):
    """How many standings with these books and cars there are."""
    spare = spare_reds(standing, excesses(standing.net, entries, cars))
    return ways_to_place(spare, standing.net.stations)


def excesses(net, entries, cars):
    """The red guests less the blue ones at each station, for these books and cars."""
    found = list(entries)
    for rope, car in enumerate(cars):
        found[net.ropes[rope][car]] += 1
    return found


def spare_reds(standing, excess):
    """How many red guests, each beside a blue one, may be anywhere; below 0 if there are too few."""
    return standing.red_total - sum([more for more in excess if more > 0])


def ways_to_place(spare, stations):
    if spare < 0:
        return 0
    return comb(spare + stations - 1, stations - 1)


def kind_size(standing):
    if standing.net.is_tree:
        return tree_size(standing)
    if len(standing.net.ropes) > MOST_FREE_ROPES:
        raise TooMany(MOST_FREE_ROPES)
    entries = books_of(standing).entries
    return sum([ways_with(standing, entries, cars) for cars in alike_cars(standing)])


def alike_cars(standing):
    """All lists of cars that keep the cars of ropes with two dead ends, in ascending order."""
    dead = dead_ropes(standing)
    return [cars for cars in every_cars(len(standing.net.ropes))
            if all([cars[rope] == standing.cars[rope] for rope in dead])]


def tree_size(standing):
    """The size of a kind on a tree, counted from the ends of the tree inwards.

    For each station a dict tells, for its book and red cars and the red guests needed farther out, in how many ways
    the cars farther out can stand so.
    """
    reds = standing.red_total
    tables = [{(entry, 0): 1} for entry in books_of(standing)]
    for lower, nearer, _, _ in tree_ways(standing.net, 0):
        tables[nearer] = joined_table(tables[nearer], closed_table(tables[lower], reds), reds)
    stations = standing.net.stations
    return sum([ways * ways_to_place(reds - need - max(entry, 0), stations)
                for (entry, need), ways in tables[0].items()])


def closed_table(table, reds):
    """The same for a station whose rope home has its red car at the upper end (1) or at the station (0)."""
    closed = {}
    for (entry, need), ways in table.items():
        for upper in (0, 1):
            key = (upper, need + max(entry + 1 - upper, 0))
            if key[1] <= reds:
                closed[key] = closed.get(key, 0) + ways
    return closed


def joined_table(table, closed, reds):
    joined = {}
    for (entry, need), ways in table.items():
        for (upper, more), others in closed.items():
            key = (entry + upper, need + more)
            if key[1] <= reds:
                joined[key] = joined.get(key, 0) + ways * others
    return joined


def members(standing):
    if len(standing.net.ropes) > MOST_FREE_ROPES:
        raise TooMany(MOST_FREE_ROPES)
    if kind_size(standing) > MOST_LISTED:
        raise TooMany(MOST_LISTED)
    for key in sorted(member_keys(standing)):
        yield standing_of_key(standing.net, key)


def member_keys(standing):
    entries = books_of(standing).entries
    keys = []
    for cars in alike_cars(standing):
        excess = excesses(standing.net, entries, cars)
        spare = spare_reds(standing, excess)
        if spare >= 0:
            for pairs in shares(spare, standing.net.stations):
                reds = [max(more, 0) + pair for more, pair in zip(excess, pairs)]
                blues = [max(-more, 0) + pair for more, pair in zip(excess, pairs)]
                keys.append(tuple(reds + blues + cars))
    return keys


def most_at(standing, station):
    there = homeward_standing(standing, station)
    return there.reds[station], there.blues[station]


def gather_row(standing, station):
    return homeward_row(standing, station)


def busiest(standing):
    smaller = [min(most_at(standing, station)) for station in range(standing.net.stations)]
    return smaller.index(max(smaller))
