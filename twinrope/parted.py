"""Two houses, compared over all standings with the same totals (point 62)."""

from twinrope.blind import Blind, blind_of
from twinrope.errors import TooMany
from twinrope.houses import MOST_GROUPED
from twinrope.standings import every_standing, standing_count


def parted(one, other, net, reds, blues):
    if standing_count(net, reds, blues) > MOST_GROUPED:
        raise TooMany(MOST_GROUPED)
    standings = list(every_standing(net, reds, blues))
    ones = kind_indexes(one, standings, reds, blues)
    others = kind_indexes(other, standings, reds, blues)
    for later in range(len(standings)):
        for earlier in range(later):
            if (ones[earlier] == ones[later]) != (others[earlier] == others[later]):
                return standings[earlier], standings[later]
    return None


def kind_indexes(house, standings, reds, blues):
    """For each standing the index of its kind in the house; there are never more blind standings than these."""
    net = standings[0].net
    if isinstance(house, Blind):
        return indexes_in(house.groups(net, reds + blues, 0), [blind_of(standing) for standing in standings])
    return indexes_in(house.groups(net, reds, blues), standings)


def indexes_in(kinds, standings):
    index = {standing.key(): at for at, kind in enumerate(kinds) for standing in kind}
    return [index[standing.key()] for standing in standings]
