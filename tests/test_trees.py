"""Point 24: ways in a tree."""

import unittest

from case import FAR, Case
from oracle import OTHERS, RINGS, TREES, great_net, great_tree, side_of
from twinrope.errors import NoRope, NoStation, NotATree
from twinrope.nets import Net
from twinrope.trees import beyond, toward, way_between

EVERY_TREE = TREES + [Net.row(24), Net.star(24), great_tree(), great_tree(2)]


def walked(net, start, ropes):
    """The stations on a way over the ropes."""
    stations = [start]
    for rope in ropes:
        first, second = net.ropes[rope]
        stations.append({first: second, second: first}[stations[-1]])
    return stations


class Trees(Case):

    def test_one_tree(self):
        net = Net(6, [(1, 0), (1, 2), (4, 1), (3, 4), (4, 5)])
        self.assertEqual(beyond(net, 0, 2), [3, 4, 5])
        self.assertEqual(beyond(net, 4, 2), [0, 1, 2])
        self.assertEqual(beyond(net, 0, 0), [1, 2, 3, 4, 5])
        self.assertEqual(toward(net, 4), [0, 2, 1, 3, None, 4])
        self.assertEqual(toward(net, 0), [None, 0, 1, 3, 2, 4])
        self.assertEqual(way_between(net, 0, 5), [0, 2, 4])
        self.assertEqual(way_between(net, 5, 0), [4, 2, 0])
        self.assertEqual(way_between(net, 3, 3), [])

    def test_one_station(self):
        net = Net(1, [])
        self.assertEqual((toward(net, 0), way_between(net, 0, 0)), ([None], []))
        self.fails(lambda: beyond(net, 0, 0), NoRope, 0)

    def test_beyond(self):
        for net in EVERY_TREE:
            for rope, (first, second) in enumerate(net.ropes):
                sides = side_of(net, first, rope), side_of(net, second, rope)
                for home in range(net.stations):
                    self.assertEqual(beyond(net, home, rope), sides[home in sides[0]])

    def test_ways(self):
        for net in EVERY_TREE:
            for start in range(net.stations):
                for end in range(0, net.stations, 1 + net.stations // 6):
                    ropes = way_between(net, start, end)
                    self.assertIsInstance(ropes, list)
                    stations = walked(net, start, ropes)
                    self.assertEqual(stations[-1], end)
                    self.assertEqual(len(set(stations)), len(stations))

    def test_toward(self):
        for net in EVERY_TREE:
            for home in range(net.stations):
                found = toward(net, home)
                self.assertEqual(len(found), net.stations)
                self.assertIsNone(found[home])
                for station in range(net.stations):
                    if station != home:
                        self.assertEqual(found[station], way_between(net, station, home)[0])

    def test_stations_and_ropes_that_do_not_exist(self):
        for net in (Net.star(4), Net(1, []), great_tree()):
            for wrong in (-1, net.stations, FAR, -FAR):
                self.fails(lambda: beyond(net, wrong, 0), NoStation, wrong)
                self.fails(lambda: toward(net, wrong), NoStation, wrong)
                self.fails(lambda: way_between(net, wrong, 0), NoStation, wrong)
                self.fails(lambda: way_between(net, 0, wrong), NoStation, wrong)
            for rope in (-1, len(net.ropes), FAR, -FAR):
                self.fails(lambda: beyond(net, 0, rope), NoRope, rope)

    def test_the_first_fault_decides(self):
        net = Net.row(3)
        self.fails(lambda: beyond(net, 3, 2), NoStation, 3)
        self.fails(lambda: way_between(net, -1, 3), NoStation, -1)
        self.fails(lambda: way_between(net, 4, -1), NoStation, 4)

    def test_nets_that_are_no_trees(self):
        for net in RINGS + OTHERS + [great_net()]:
            self.fails(lambda: beyond(net, 0, 0), NotATree)
            self.fails(lambda: beyond(net, -1, -1), NotATree)
            self.fails(lambda: toward(net, 0), NotATree)
            self.fails(lambda: toward(net, FAR), NotATree)
            self.fails(lambda: way_between(net, 0, 1), NotATree)
            self.fails(lambda: way_between(net, 0, FAR), NotATree)


if __name__ == "__main__":
    unittest.main()
