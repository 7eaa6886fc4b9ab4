"""Which standings come of which (point 17)."""

from twinrope.arrows import dead_ropes
from twinrope.books import books_of
from twinrope.checks import check_same_net
from twinrope.errors import Apart


def difference_of(first, second):
    check_same_net(first, second)
    if first.red_total != second.red_total:
        return "reds", first.red_total, second.red_total
    ones = books_of(first)
    twos = books_of(second)
    for station in range(first.net.stations):
        if ones[station] != twos[station]:
            return "book", station, ones[station], twos[station]
    for rope in dead_ropes(first):
        if first.cars[rope] != second.cars[rope]:
            return "rope", rope
    return None


def are_alike(first, second):
    return difference_of(first, second) is None


def check_alike(first, second):
    why = difference_of(first, second)
    if why is not None:
        raise Apart(why)
