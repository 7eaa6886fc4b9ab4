"""The checks of arguments that many functions share (point 4)."""

from twinrope.errors import NoColour, NoRope, NoStation, NotATree, OtherNet

COLOURS = ("red", "blue")


def check_tree(net):
    if not net.is_tree:
        raise NotATree()


def check_same_net(first, second):
    if first.net != second.net:
        raise OtherNet()


def check_station(net, station):
    if not 0 <= station < net.stations:
        raise NoStation(station)


def check_rope(net, rope):
    if not 0 <= rope < len(net.ropes):
        raise NoRope(rope)


def check_ride(net, rope, colour):
    check_rope(net, rope)
    if colour not in COLOURS:
        raise NoColour(colour)


def check_rides(net, rides):
    for rope, colour in rides:
        check_ride(net, rope, colour)
