"""Kinds of crowds: which guests can change places (point 54)."""

from math import factorial

from twinrope.arrows import live_parts
from twinrope.checks import COLOURS, check_same_net
from twinrope.crowds import check_name, named_guests
from twinrope.kinship import difference_of


def named_difference(first, second):
    check_same_net(first, second)
    for colour in COLOURS:
        if first.names(colour) != second.names(colour):
            return "names", colour
    why = difference_of(first.standing(), second.standing())
    if why is not None:
        return why
    parts = live_parts(first.standing())
    for name in sorted(first.names("red") + first.names("blue")):
        if second.place_of(name) not in part_with(parts, first.place_of(name)):
            return "guest", name
    return None


def part_with(parts, station):
    """The live part that has the station; a guest is always in one."""
    return [part for part in parts if station in part][0]


def part_of(crowd, name):
    return part_with(live_parts(crowd.standing()), crowd.place_of(name))


def companions(crowd, name):
    check_name(crowd, name)
    part = part_of(crowd, name)
    guests = named_guests(crowd, crowd.colour_of(name))
    return [other for other, station in guests if station in part and other != name]


def named_count(crowd):
    parts = live_parts(crowd.standing())
    return ways_to_name(crowd.reds, parts) * ways_to_name(crowd.blues, parts)


def ways_to_name(guests, parts):
    """In how many ways the names of these guests can be given to the live parts."""
    ways = factorial(len(guests))
    for part in parts:
        ways = ways // factorial(len([name for name, station in guests if station in part]))
    return ways
