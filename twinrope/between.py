"""What lies between two standings of a row (point 40)."""

from twinrope.checks import check_row, check_same_net
from twinrope.errors import TooMany
from twinrope.kinship import check_alike
from twinrope.lattice import car_with, guests_between, leftmost, profile_of, rightmost
from twinrope.standings import MOST_LISTED, standing_of_key


def is_between(first, middle, second):
    check_row(first.net)
    check_same_net(first, middle)
    check_same_net(first, second)
    check_alike(first, middle)
    check_alike(first, second)
    return distance(first, middle) + distance(middle, second) == distance(first, second)


def distance(first, second):
    """The least number from one alike standing to the other."""
    one = profile_of(first)
    other = profile_of(second)
    return sum([abs(mine - theirs) for mine, theirs in zip(one.reds + one.blues, other.reds + other.blues)])


def diameter(standing):
    return distance(leftmost(standing), rightmost(standing))


def between_count(first, second):
    check_row(first.net)
    check_alike(first, second)
    return count_of(tables_between(first, second))


def every_between(first, second):
    check_row(first.net)
    check_alike(first, second)
    tables = tables_between(first, second)
    if count_of(tables) > MOST_LISTED:
        raise TooMany(MOST_LISTED)
    here = profile_of(first)
    for key in sorted([key_of(first, here, path) for path in paths_over(tables)]):
        yield standing_of_key(first.net, key)


def tables_between(first, second):
    """For each rope a dict: in how many ways each pair of reds and blues above it goes on over the ropes above."""
    one = profile_of(first)
    other = profile_of(second)
    tables = []
    further = None
    for rope in reversed(range(len(first.net.ropes))):
        table = {}
        for pair in pairs_above(first, one, other, rope):
            ways = 1 if further is None else sum([further[after] for after in followers(pair, further)])
            if ways > 0:
                table[pair] = ways
        tables.append(table)
        further = table
    return tables[::-1]


def pairs_above(first, one, other, rope):
    """The pairs that are not outside of the two profiles, and that the cars of the rope allow."""
    return [(reds, blues)
            for reds in all_between(one.reds[rope], other.reds[rope])
            for blues in all_between(one.blues[rope], other.blues[rope])
            if car_with(first, one, rope, reds, blues) in (0, 1)]


def all_between(one, other):
    return list(range(min(one, other), max(one, other) + 1))


def followers(pair, table):
    """The pairs of the next rope, above which there are no more guests than above this one."""
    return [after for after in table if after[0] <= pair[0] and after[1] <= pair[1]]


def count_of(tables):
    if not tables:
        return 1
    return sum(tables[0].values())


def paths_over(tables):
    """All lists of pairs, one for each rope, that follow one another."""
    if not tables:
        return [[]]
    paths = [[pair] for pair in tables[0]]
    for place in range(1, len(tables)):
        behind = {pair: followers(pair, tables[place]) for pair in tables[place - 1]}
        paths = [path + [after] for path in paths for after in behind[path[-1]]]
    return paths


def key_of(first, here, path):
    """The key of the alike standing with these pairs above its ropes; `here` is the profile of the first one."""
    reds = guests_between(first.red_total, [pair[0] for pair in path])
    blues = guests_between(first.blue_total, [pair[1] for pair in path])
    cars = [car_with(first, here, rope, pair[0], pair[1]) for rope, pair in enumerate(path)]
    return tuple(reds + blues + cars)
