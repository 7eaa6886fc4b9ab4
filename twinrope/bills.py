"""Bills, which tell how often guests cross each rope (points 44 and 45)."""

from twinrope.checks import check_fares, check_same_net
from twinrope.errors import BadBill
from twinrope.rides import walk


class Bill:
    """For each rope, how often red and blue guests cross it from its first end, less the other way."""

    def __init__(self, net, reds, blues):
        check_crossings(net, "red", reds)
        check_crossings(net, "blue", blues)
        self.net = net
        self.reds = tuple(reds)
        self.blues = tuple(blues)

    def cost(self, prices=None):
        each = prices_of(self.net, prices)
        return sum([price * (abs(red) + abs(blue)) for price, red, blue in zip(each, self.reds, self.blues)])

    def leads(self, first, second):
        if first.net != self.net or second.net != self.net:
            return False
        if less(self.reds, self.blues) != less(second.cars, first.cars):
            return False
        if flow_out(self.net, self.reds) != less(first.reds, second.reds):
            return False
        return flow_out(self.net, self.blues) == less(first.blues, second.blues)

    def __add__(self, other):
        check_same_net(self, other)
        return Bill(self.net, more(self.reds, other.reds), more(self.blues, other.blues))

    def __sub__(self, other):
        check_same_net(self, other)
        return Bill(self.net, less(self.reds, other.reds), less(self.blues, other.blues))

    def __neg__(self):
        return Bill(self.net, [-red for red in self.reds], [-blue for blue in self.blues])

    def __eq__(self, other):
        return (isinstance(other, Bill) and self.net == other.net and self.reds == other.reds
                and self.blues == other.blues)


def check_crossings(net, colour, crossings):
    if len(crossings) != len(net.ropes):
        raise BadBill(colour)


def more(items, others):
    return [mine + theirs for mine, theirs in zip(items, others)]


def less(items, others):
    return [mine - theirs for mine, theirs in zip(items, others)]


def flow_out(net, crossings):
    """For each station, the crossings that lead away from it, less those that lead to it."""
    found = [0] * net.stations
    for (start, end), many in zip(net.ropes, crossings):
        found[start] += many
        found[end] -= many
    return found


def prices_of(net, prices):
    """The prices of all ropes, checked; None stands for 1 everywhere."""
    if prices is None:
        return [1] * len(net.ropes)
    check_fares(len(net.ropes), prices, 1)
    return prices


def bill_of(standing, rides):
    reds = [0] * len(standing.net.ropes)
    blues = [0] * len(standing.net.ropes)
    for here, (rope, colour) in zip(walk(standing, rides), rides):
        if colour == "red":
            reds[rope] += 1 - 2 * here.cars[rope]
        else:
            blues[rope] += 2 * here.cars[rope] - 1
    return Bill(standing.net, reds, blues)
