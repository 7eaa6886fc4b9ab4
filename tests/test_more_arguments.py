"""Points 3 to 5 for layers, crowds and houses: arguments, returned lists and the order of errors."""

import unittest

from case import FAR, Case
from oracle import CIRCLES, great_net
from plain import plain, spoil
from twinrope.blind import Blind, blind_difference, blind_number, blind_of, blind_plan, blind_row
from twinrope.companions import companions, named_count, named_difference
from twinrope.crowds import Crowd, ride_named, walk_named
from twinrope.errors import NoName, NoRope
from twinrope.exchanges import border_of, exchange_row, named_plan
from twinrope.houses import House
from twinrope.layers import layers_of, twin_number
from twinrope.nets import Net
from twinrope.rides import end_of
from twinrope.standings import Standing

NET = Net(4, [(0, 1), (2, 1), (1, 3)])
FIRST = Standing(NET, [2, 0, 0, 0], [0, 0, 1, 0], [0, 1, 0])
SECOND = end_of(FIRST, (0, "red"), (0, "red"), (0, "red"), (1, "red"))
CROWD = Crowd(NET, [0, 1, 0], [("ann", 0), ("eva", 0)], [("bob", 2)])
APART = Crowd(CIRCLES[1], [1, 1, 0, 1, 0], [("ann", 0), ("bob", 1)], [])
ONE = Standing(CIRCLES[0], [3, 0, 0, 0], [0] * 4, [0, 0, 0, 0])
TWO = Blind().walk_steps(ONE, [(0, "first"), (1, "first"), (2, "first"), (3, "first"), (0, "first")])[-1]
LOW = Standing(NET, [2, 0, 0, 0], [0] * 4, [0, 1, 0])
HIGH = Standing(NET, [0, 0, 2, 0], [0] * 4, [0, 1, 0])
RIDES = [(0, "ann"), (0, "ann"), (0, "eva"), (1, "eva")]


def calls():
    """Pairs of a function and a list of its arguments, at least one for each entry of the interface."""
    return crowd_calls() + house_calls()


def crowd_calls():
    """The calls for points 51 to 56."""
    after = walk_named(CROWD, RIDES)[-1]
    moved = Crowd(CIRCLES[1], [1, 1, 0, 1, 0], [("ann", 1), ("bob", 0)], [])
    return [
        (layers_of, [FIRST]), (twin_number, [FIRST, SECOND]), (twin_number, [FIRST, LOW]),
        (Crowd, [NET, [0, 1, 0], [("eva", 0), ("ann", 0)], [("bob", 2)]]), (CROWD.names, ["red"]),
        (CROWD.place_of, ["bob"]), (CROWD.colour_of, ["bob"]), (CROWD.standing, []), (len, [CROWD]),
        (lambda name: name in CROWD, ["eva"]), (ride_named, [CROWD, 0, "ann"]), (walk_named, [CROWD, list(RIDES)]),
        (named_difference, [CROWD, after]), (named_difference, [APART, moved]), (companions, [CROWD, "ann"]),
        (companions, [APART, "ann"]), (named_count, [APART]), (exchange_row, [CROWD, "ann", "eva"]),
        (exchange_row, [after, "ann", "eva"]), (exchange_row, [APART, "bob", "ann"]), (border_of, [APART, "ann"]),
        (named_plan, [CROWD, after]), (named_plan, [APART, moved]),
    ]


def house_calls():
    """The calls for points 57 to 59."""
    coloured, blind = House(), Blind()
    steps = [(0, "first"), (0, "second"), (1, "second")]
    found = [
        (coloured.words, []), (coloured.steps, [FIRST]), (coloured.step_to, [FIRST, 0, "red"]),
        (coloured.walk_steps, [FIRST, [(0, "red"), (1, "blue")]]), (coloured.same_kind, [FIRST, SECOND]),
        (coloured.kind_total, [NET, 2, 1]), (coloured.groups, [Net.row(3), 1, 1]),
        (coloured.groups, [Net.ring(3), 1, 0]), (blind.words, []), (blind.steps, [LOW]),
        (blind.step_to, [LOW, 0, "first"]), (blind.walk_steps, [LOW, list(steps[:2])]),
        (blind.same_kind, [LOW, HIGH]), (blind.kind_total, [NET, 3, 0]), (blind.groups, [Net.ring(3), 2, 0]),
        (blind_of, [FIRST]), (blind_plan, [ONE, TWO]),
    ]
    for entry in (blind_difference, blind_number, blind_row, blind_plan):
        found.append((entry, [LOW, HIGH]))
    return found


class Arguments(Case):

    def test_calls_change_no_argument_and_no_later_answer(self):
        for entry, arguments in calls():
            before = plain(arguments)
            answer = entry(*arguments)
            kept = plain(answer)
            self.assertEqual(plain(arguments), before)
            spoil(answer)
            self.assertEqual(plain(entry(*arguments)), kept)
            self.assertEqual(plain(arguments), before)

    def test_equal_arguments_give_equal_results(self):
        for (entry, arguments), (other, again) in zip(calls(), calls()):
            self.assertEqual(plain(entry(*arguments)), plain(other(*again)))


class OrderOfErrors(Case):

    def test_ropes_and_names(self):
        for rope in (-1, 3, FAR, -FAR):
            for entry in (lambda: ride_named(CROWD, rope, "max"), lambda: walk_named(CROWD, [(rope, "max")]),
                          lambda: House().step_to(FIRST, rope, ""), lambda: House().walk_steps(FIRST, [(rope, "")]),
                          lambda: Blind().step_to(FIRST, rope, ""), lambda: Blind().walk_steps(FIRST, [(rope, "")])):
                self.fails(entry, NoRope, rope)
        for name in ("", "max", "ANN", "ann "):
            for entry in (lambda: CROWD.place_of(name), lambda: CROWD.colour_of(name),
                          lambda: ride_named(CROWD, 0, name), lambda: walk_named(CROWD, [(0, name)]),
                          lambda: companions(CROWD, name), lambda: border_of(CROWD, name),
                          lambda: exchange_row(CROWD, name, "leo"), lambda: exchange_row(CROWD, "bob", name)):
                self.fails(entry, NoName, name)

    def test_the_greatest_crowd(self):
        net = great_net()
        guests = [(chr(97 + k), 2 * k) for k in range(12)]
        here = Crowd(net, [0, 1] * 20, guests[:7], guests[7:])
        self.assertEqual((len(here), len(here.standing().reds)), (12, 24))
        self.assertGreaterEqual(named_count(here), 1)
        for name, _ in guests:
            self.assertNotIn(name, companions(here, name))


if __name__ == "__main__":
    unittest.main()
