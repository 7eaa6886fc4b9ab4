"""Point 17: which standings are alike."""

import unittest
from random import Random

from case import Case
from oracle import (OTHERS, RINGS, SMALL_NETS, TOTALS, TREES, book_of, guests_somewhere, great_net, kinds_of,
                    places_with, some_place, some_row, standing_of)
from twinrope.errors import OtherNet
from twinrope.kinship import are_alike, difference_of
from twinrope.nets import Net
from twinrope.standings import Standing


class Differences(Case):

    def test_the_example(self):
        one = Standing(Net.row(2), [1, 0], [0, 0], [0])
        two = Standing(Net.row(2), [0, 1], [0, 0], [0])
        self.assertEqual(difference_of(one, two), ("book", 0, 0, -1))
        self.assertEqual(difference_of(two, one), ("book", 0, -1, 0))

    def test_the_numbers_of_red_guests_come_first(self):
        one = Standing(Net.row(2), [2, 0], [1, 0], [0])
        two = Standing(Net.row(2), [1, 0], [0, 0], [0])
        self.assertEqual(difference_of(one, two), ("reds", 2, 1))
        self.assertEqual(difference_of(two, one), ("reds", 1, 2))
        three = Standing(Net.row(2), [0, 0], [0, 3], [1])
        self.assertEqual(difference_of(one, three), ("reds", 2, 0))

    def test_the_least_station_is_told(self):
        one = Standing(Net.row(4), [1, 0, 0, 0], [0, 0, 0, 0], [0, 0, 0])
        two = Standing(Net.row(4), [1, 0, 0, 0], [0, 0, 0, 0], [0, 1, 1])
        self.assertEqual(difference_of(one, two), ("book", 1, -1, 0))
        three = Standing(Net.row(4), [1, 0, 0, 0], [0, 0, 0, 0], [0, 0, 1])
        self.assertEqual(difference_of(one, three), ("book", 2, -1, 0))

    def test_unlike_numbers_of_blue_guests_alone(self):
        one = Standing(Net.row(2), [1, 0], [0, 2], [0])
        two = Standing(Net.row(2), [1, 0], [0, 1], [0])
        self.assertEqual(difference_of(one, two), ("book", 1, -2, -1))

    def test_a_circle_that_no_guest_reaches(self):
        net = Net(5, [(0, 1), (1, 2), (2, 3), (3, 1), (3, 4)])
        one = Standing(net, [1, 0, 0, 0, 0], [0] * 5, [1, 0, 0, 0, 0])
        two = Standing(net, [1, 0, 0, 0, 0], [0] * 5, [1, 1, 1, 1, 0])
        self.assertEqual(difference_of(one, two), ("rope", 1))
        self.assertEqual(difference_of(two, one), ("rope", 1))
        self.assertIs(are_alike(one, two), False)

    def test_a_circle_that_a_guest_reaches(self):
        net = Net(4, [(0, 1), (1, 2), (2, 3), (3, 1)])
        one = Standing(net, [0, 1, 0, 0], [0] * 4, [1, 0, 0, 0])
        two = Standing(net, [0, 1, 0, 0], [0] * 4, [1, 1, 1, 1])
        self.assertIsNone(difference_of(one, two))
        self.assertIs(are_alike(one, two), True)

    def test_a_ring_without_guests(self):
        one = Standing(Net.ring(3), [0] * 3, [0] * 3, [0, 0, 0])
        two = Standing(Net.ring(3), [0] * 3, [0] * 3, [1, 1, 1])
        self.assertEqual(difference_of(one, two), ("rope", 0))
        self.assertIsNone(difference_of(one, one))

    def test_one_station(self):
        def alone(reds, blues):
            return Standing(Net(1, []), [reds], [blues], [])
        self.assertIsNone(difference_of(alone(2, 3), alone(2, 3)))
        self.assertEqual(difference_of(alone(2, 3), alone(2, 4)), ("book", 0, -1, -2))
        self.assertEqual(difference_of(alone(2, 3), alone(1, 2)), ("reds", 2, 1))

    def test_other_nets(self):
        one = Standing(Net.row(2), [1, 0], [0, 0], [0])
        for net in (Net(2, [(1, 0)]), Net.ring(2), Net.row(3)):
            other = Standing.gathered(net, 0, 3)
            self.fails(lambda: difference_of(one, other), OtherNet)
            self.fails(lambda: are_alike(one, other), OtherNet)


def expected_difference(net, one, two, dead):
    if sum(one[0]) != sum(two[0]):
        return "reds", sum(one[0]), sum(two[0])
    for station in range(net.stations):
        books = book_of(net, one, station), book_of(net, two, station)
        if books[0] != books[1]:
            return "book", station, *books
    for rope, (start, end) in enumerate(net.ropes):
        if start in dead and end in dead and one[2][rope] != two[2][rope]:
            return "rope", rope
    return None


class Searched(Case):

    def check_kinds(self, net, kinds, rng):
        """Each kind beside itself, and beside some of the others."""
        for at, kind in enumerate(kinds):
            alive = guests_somewhere(kind)
            dead = [station for station in range(net.stations) if station not in alive]
            one = rng.choice(kind)
            for other in [at] + rng.sample(range(len(kinds)), min(12, len(kinds))):
                two = rng.choice(kinds[other])
                here, there = standing_of(net, one), standing_of(net, two)
                expected = expected_difference(net, one, two, dead)
                self.assertEqual(expected is None, at == other)
                self.assertEqual(difference_of(here, there), expected)
                self.assertIs(are_alike(here, there), at == other)
                if expected is not None:
                    self.assertIsInstance(difference_of(here, there), tuple)

    def test_against_all_alike_standings(self):
        rng = Random(5)
        for net in SMALL_NETS:
            for reds, blues in TOTALS:
                if len(places_with(net, reds, blues)) <= 1300:
                    self.check_kinds(net, kinds_of(net, reds, blues), rng)

    def test_kinds_that_only_a_rope_parts(self):
        found = set()
        for net in SMALL_NETS:
            for totals in ((0, 0), (1, 0), (0, 1), (1, 1)):
                places = places_with(net, *totals)[:150]
                for one in places[::4]:
                    for two in places:
                        why = difference_of(standing_of(net, one), standing_of(net, two))
                        if why is not None and why[0] == "rope":
                            found.add((net in TREES, net in RINGS, net in OTHERS, sum(totals) > 0))
        self.assertIn((False, True, False, False), found)
        self.assertIn((False, False, True, True), found)
        self.assertFalse([case for case in found if case[0] or (case[1] and case[3])])

    def test_the_greatest_net(self):
        net, rng = great_net(), Random(6)
        for reds in (0, 1, 15, 29, 30):
            rides, places = some_row(net, some_place(net, reds, 30 - reds, rng), 200, rng)
            here, there = standing_of(net, places[0]), standing_of(net, places[-1])
            self.assertIsNone(difference_of(here, there))
            self.assertIs(are_alike(there, here), True)
            other = some_place(net, reds, 30 - reds, rng)
            self.assertEqual(difference_of(here, standing_of(net, other)),
                             expected_difference(net, places[0], other, []))


if __name__ == "__main__":
    unittest.main()
