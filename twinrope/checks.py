"""The checks of arguments that many functions share (point 4)."""

from twinrope.errors import BadFare, NoColour, NoRope, NoStation, NotARing, NotARow, NotATree, NotExact, OtherNet

COLOURS = ("red", "blue")


def check_tree(net):
    if not net.is_tree:
        raise NotATree()


def check_ring(net):
    if not net.is_ring:
        raise NotARing()


def check_row(net):
    if not net.is_row:
        raise NotARow()


def check_exact(net):
    """On a tree and on a ring the least numbers of rides are known."""
    if not net.is_tree and not net.is_ring:
        raise NotExact()


def check_same_net(first, second):
    if first.net != second.net:
        raise OtherNet()


def check_station(net, station):
    if not 0 <= station < net.stations:
        raise NoStation(station)


def check_rope(net, rope):
    check_rope_of(len(net.ropes), rope)


def check_rope_of(ropes, rope):
    if not 0 <= rope < ropes:
        raise NoRope(rope)


def check_colour(colour):
    if colour not in COLOURS:
        raise NoColour(colour)


def check_ride(net, rope, colour):
    check_rope(net, rope)
    check_colour(colour)


def check_rides(net, rides):
    for rope, colour in rides:
        check_ride(net, rope, colour)


def check_fares(ropes, fares, least):
    """Fares are a list of integers of at least `least`, one for each rope."""
    if len(fares) != ropes:
        raise BadFare(-1)
    for rope, fare in enumerate(fares):
        if fare < least:
            raise BadFare(rope)
