"""Points 7 and 8: nets and their shapes."""

import unittest

from case import FAR, Case
from oracle import SMALL_NETS, great_net
from twinrope.errors import BadNet, NoRope, NoStation, NotConnected, NotThere, TooMany
from twinrope.nets import Net


class NetErrors(Case):

    def test_stations(self):
        self.assertEqual(Net(1, []).stations, 1)
        self.assertEqual(Net(24, [(0, k) for k in range(1, 24)]).stations, 24)
        for stations in (0, -1, 25, FAR, -FAR):
            self.fails(lambda: Net(stations, [(0, 1)]), BadNet, -1)

    def test_forty_ropes_and_one_more(self):
        self.assertEqual(len(Net(2, [(0, 1)] * 40).ropes), 40)
        self.fails(lambda: Net(2, [(0, 1)] * 41), TooMany, 40)

    def test_ends_that_do_not_exist(self):
        good = [(0, 1), (1, 2), (2, 0)]
        for bad in ((0, 3), (3, 0), (-1, 0), (0, -1), (FAR, 0), (0, -FAR)):
            for at in range(3):
                ropes = good[:at] + [bad] + good[at:]
                self.fails(lambda: Net(3, ropes), BadNet, at)

    def test_equal_ends(self):
        for at in range(3):
            ropes = [(0, 1), (1, 2)]
            ropes.insert(at, (1, 1))
            self.fails(lambda: Net(3, ropes), BadNet, at)

    def test_not_joined(self):
        self.fails(lambda: Net(2, []), NotConnected, 1)
        self.fails(lambda: Net(4, [(0, 1), (2, 3)]), NotConnected, 2)
        self.fails(lambda: Net(4, [(3, 0), (3, 2)]), NotConnected, 1)
        self.fails(lambda: Net(24, [(k + 1, k) for k in range(22)]), NotConnected, 23)
        self.fails(lambda: Net(4, [(1, 2), (2, 3), (3, 1)]), NotConnected, 1)

    def test_the_first_fault_decides(self):
        self.fails(lambda: Net(0, [(0, 0)] * 41), BadNet, -1)
        self.fails(lambda: Net(3, [(0, 0)] * 41), TooMany, 40)
        self.fails(lambda: Net(4, [(0, 1), (2, 2), (0, 9)]), BadNet, 1)
        self.fails(lambda: Net(4, [(0, 1), (0, 9), (2, 2)]), BadNet, 1)
        self.fails(lambda: Net(4, [(0, 1), (4, 1)]), BadNet, 1)


class NetValues(Case):

    def test_attributes(self):
        net = Net(3, [(2, 0), (0, 1), (0, 2)])
        self.assertEqual(net.stations, 3)
        self.assertEqual(net.ropes, ((2, 0), (0, 1), (0, 2)))
        self.assertIsInstance(net.ropes, tuple)
        self.assertEqual((Net.MOST_STATIONS, Net.MOST_ROPES), (24, 40))
        self.assertEqual((net.MOST_STATIONS, net.MOST_ROPES), (24, 40))

    def test_ends(self):
        net = Net(3, [(2, 0), (0, 1), (0, 2)])
        self.assertEqual([net.ends(rope) for rope in range(3)], [(2, 0), (0, 1), (0, 2)])
        for rope in (-1, 3, FAR, -FAR):
            self.fails(lambda: net.ends(rope), NoRope, rope)

    def test_other_end(self):
        for net in SMALL_NETS + [great_net()]:
            for rope, (start, end) in enumerate(net.ropes):
                self.assertEqual(net.other_end(rope, start), end)
                self.assertEqual(net.other_end(rope, end), start)
                for station in range(net.stations):
                    if station not in (start, end):
                        self.fails(lambda: net.other_end(rope, station), NotThere, rope, station)

    def test_other_end_errors_in_order(self):
        net = Net.row(3)
        self.fails(lambda: net.other_end(2, 3), NoRope, 2)
        self.fails(lambda: net.other_end(-1, 0), NoRope, -1)
        self.fails(lambda: net.other_end(0, 3), NoStation, 3)
        self.fails(lambda: net.other_end(0, -1), NoStation, -1)
        self.fails(lambda: net.other_end(0, 2), NotThere, 0, 2)

    def test_ropes_at(self):
        net = Net(4, [(1, 0), (2, 1), (0, 1), (3, 0)])
        self.assertEqual([net.ropes_at(k) for k in range(4)], [[0, 2, 3], [0, 1, 2], [1], [3]])
        self.assertEqual(Net(1, []).ropes_at(0), [])
        for station in (-1, 4, FAR, -FAR):
            self.fails(lambda: net.ropes_at(station), NoStation, station)

    def test_equality(self):
        self.assertTrue(Net(3, [(0, 1), (1, 2)]) == Net(3, [(0, 1), (1, 2)]))
        self.assertFalse(Net(3, [(0, 1), (1, 2)]) != Net(3, [(0, 1), (1, 2)]))
        others = [
            Net(3, [(1, 2), (0, 1)]), Net(3, [(1, 0), (1, 2)]), Net(3, [(0, 1), (1, 2), (1, 2)]),
            Net(2, [(0, 1)]), Net(4, [(0, 1), (1, 2), (2, 3)]), Net(3, [(0, 1), (0, 2)]),
        ]
        for other in others:
            self.assertFalse(Net(3, [(0, 1), (1, 2)]) == other)
            self.assertTrue(Net(3, [(0, 1), (1, 2)]) != other)
        self.assertFalse(Net(2, [(0, 1), (0, 1)]) == Net(2, [(0, 1)]))

    def test_repr(self):
        self.assertEqual(repr(Net(3, [(0, 1), (1, 2)])), "Net(3, [(0, 1), (1, 2)])")
        self.assertEqual(repr(Net(1, [])), "Net(1, [])")
        self.assertEqual(repr(Net(2, [(1, 0)])), "Net(2, [(1, 0)])")
        for net in SMALL_NETS + [great_net()]:
            self.assertEqual(eval(repr(net), {"Net": Net}), net)


class Shapes(Case):

    def shape(self, net):
        return net.is_tree, net.is_ring, net.is_row

    def test_one_station(self):
        self.assertEqual(self.shape(Net(1, [])), (True, False, True))

    def test_shapes_are_true_or_false(self):
        for net in SMALL_NETS:
            for word in self.shape(net):
                self.assertIsInstance(word, bool)

    def test_rows(self):
        for stations in range(1, 25):
            net = Net.row(stations)
            self.assertEqual(net, Net(stations, [(k, k + 1) for k in range(stations - 1)]))
            self.assertEqual(self.shape(net), (True, False, True))

    def test_near_misses_of_a_row(self):
        self.assertEqual(self.shape(Net(2, [(1, 0)])), (True, False, False))
        self.assertEqual(self.shape(Net(4, [(0, 1), (2, 1), (2, 3)])), (True, False, False))
        self.assertEqual(self.shape(Net(4, [(0, 1), (2, 3), (1, 2)])), (True, False, False))
        self.assertEqual(self.shape(Net(4, [(0, 1), (1, 2), (3, 2)])), (True, False, False))
        self.assertEqual(self.shape(Net(4, [(0, 1), (1, 2), (1, 3)])), (True, False, False))
        self.assertEqual(self.shape(Net(3, [(0, 1), (1, 2), (1, 2)])), (False, False, False))
        self.assertEqual(self.shape(Net(2, [(0, 1), (0, 1), (0, 1)])), (False, False, False))

    def test_rings(self):
        self.assertEqual(Net.ring(2), Net(2, [(0, 1), (1, 0)]))
        for stations in range(2, 25):
            net = Net.ring(stations)
            ropes = [(k, k + 1) for k in range(stations - 1)] + [(stations - 1, 0)]
            self.assertEqual(net, Net(stations, ropes))
            self.assertEqual(self.shape(net), (False, True, False))

    def test_rings_in_another_order(self):
        self.assertTrue(Net(2, [(0, 1), (0, 1)]).is_ring)
        self.assertTrue(Net(2, [(1, 0), (0, 1)]).is_ring)
        self.assertTrue(Net(4, [(0, 2), (1, 2), (3, 1), (3, 0)]).is_ring)

    def test_near_misses_of_a_ring(self):
        self.assertFalse(Net(3, [(0, 1), (1, 2)]).is_ring)
        self.assertFalse(Net(3, [(0, 1), (0, 1), (1, 2)]).is_ring)
        self.assertFalse(Net(4, [(0, 1), (1, 2), (2, 0), (2, 3)]).is_ring)
        self.assertFalse(Net(3, [(0, 1), (1, 2), (2, 0), (0, 1)]).is_ring)
        self.assertFalse(Net(3, [(0, 1), (0, 1), (1, 2), (1, 2)]).is_ring)
        self.assertFalse(Net(2, [(0, 1), (0, 1), (0, 1)]).is_ring)
        self.assertFalse(great_net().is_ring)

    def test_stars(self):
        self.assertEqual(Net.star(1), Net(1, []))
        for stations in range(1, 25):
            net = Net.star(stations)
            self.assertEqual(net, Net(stations, [(0, k + 1) for k in range(stations - 1)]))
            self.assertEqual(self.shape(net), (True, False, stations <= 2))

    def test_trees(self):
        self.assertTrue(Net(4, [(3, 1), (2, 0), (1, 2)]).is_tree)
        self.assertFalse(Net(4, [(3, 1), (2, 0), (1, 2), (1, 2)]).is_tree)
        self.assertFalse(Net(2, [(0, 1), (1, 0)]).is_tree)
        self.assertFalse(great_net().is_tree)

    def test_wrong_numbers_of_stations(self):
        for stations in (0, -1, 25, FAR, -FAR):
            self.fails(lambda: Net.row(stations), BadNet, -1)
            self.fails(lambda: Net.ring(stations), BadNet, -1)
            self.fails(lambda: Net.star(stations), BadNet, -1)
        self.fails(lambda: Net.ring(1), BadNet, -1)


if __name__ == "__main__":
    unittest.main()
