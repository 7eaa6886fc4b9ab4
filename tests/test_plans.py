"""Point 48: rows that lead from one standing to another on any net."""

import unittest
from random import Random

from case import Case
from oracle import (CIRCLES, OTHERS, RINGS, SMALL_NETS, TREES, great_net, great_tree, place_of, small_kinds, some_place,
                    some_row, some_tree, standing_of, steps_from, walked)
from twinrope.errors import Apart, OtherNet
from twinrope.floors import floor_number
from twinrope.kinship import are_alike, difference_of
from twinrope.least import least_number
from twinrope.nets import Net
from twinrope.plans import plan_of, range_of_rows
from twinrope.rings import ring_number
from twinrope.standings import Standing

TOTALS = [(0, 0), (1, 0), (0, 1), (1, 1), (2, 0), (2, 1), (1, 2)]


def tail_and_circles(tail, circles):
    """A row with so many pairs of ropes at its end, each a circle of two stations."""
    ropes = [(k, k + 1) for k in range(tail)]
    for k in range(tail, tail + circles):
        ropes += [(k, k + 1), (k + 1, k)]
    return Net(tail + circles + 1, ropes)


class Plans(Case):

    def check(self, net, one, two):
        first, second = standing_of(net, one), standing_of(net, two)
        row = plan_of(first, second)
        number = floor_number(first, second)
        self.assertEqual(walked(net, one, row), two)
        self.assertEqual(range_of_rows(first, second), (number, len(row)))
        self.assertEqual((len(row) - number) % 2, 0)
        self.assertGreaterEqual(len(row), number)
        if net.is_tree or net.is_ring:
            self.assertEqual(len(row), number)
        else:
            self.assertLessEqual(len(row), 4 * net.stations * number)
        return row

    def test_small_nets(self):
        for net, kind in small_kinds(SMALL_NETS + CIRCLES, TOTALS):
            for two in kind[::1 + len(kind) // 3]:
                far = steps_from(net, two)
                for one in kind[::1 + len(kind) // 5]:
                    row = self.check(net, one, two)
                    self.assertGreaterEqual(len(row), far[one])
                    if net in TREES + RINGS:
                        self.assertEqual(len(row), far[one])

    def test_least_on_trees_and_rings(self):
        rng = Random(43)
        for net in (Net.row(24), great_tree(), Net.ring(24), Net(24, [pair[::-1] for pair in Net.ring(24).ropes])):
            for totals in ((15, 15), (30, 0), (1, 1)):
                _, places = some_row(net, some_place(net, *totals, rng), 600, rng)
                first, second = standing_of(net, places[0]), standing_of(net, places[-1])
                row = self.check(net, places[0], places[-1])
                least = least_number if net.is_tree else ring_number
                self.assertEqual(len(row), least(first, second))

    def test_great_nets(self):
        rng = Random(44)
        wide = Net(24, list(Net.row(24).ropes) + [(k, k + 1) for k in range(17)])
        for net in (great_net(), Net(2, [(0, 1), (1, 0)] * 20), wide):
            for totals in ((15, 15), (30, 0), (1, 2), (1, 0)):
                for length in (20, 1500):
                    _, places = some_row(net, some_place(net, *totals, rng), length, rng)
                    self.check(net, places[0], places[-1])

    def test_the_longest_plan(self):
        net = Net(24, list(Net.row(24).ropes) + [(k, k + 1) for k in range(17)])
        one = ((15,) + (0,) * 23, (15,) + (0,) * 23, (0,) * 40)
        two = ((0,) * 23 + (15,), (0,) * 23 + (15,), (0,) * 40)
        self.assertEqual(len(self.check(net, one, two)), 690)

    def test_circles_that_a_lone_guest_turns(self):
        for tail, circles in ((22, 1), (10, 12), (20, 3), (8, 15), (1, 1), (0, 2)):
            net = tail_and_circles(tail, circles)
            guests, none = [1] + [0] * (tail + circles), [0] * (tail + circles + 1)
            for reds, blues, cars in ((guests, none, [0] * tail), (none, guests, [1] * tail)):
                one = (tuple(reds), tuple(blues), tuple(cars + [0] * (2 * circles)))
                two = (tuple(reds), tuple(blues), tuple(cars + [1] * (2 * circles)))
                self.check(net, one, two)
                self.check(net, two, one)
                self.assertEqual(floor_number(standing_of(net, one), standing_of(net, two)), 2 * circles)

    def test_circles_that_a_pair_has_to_reach(self):
        for tail, circles in ((22, 1), (10, 12), (20, 3), (8, 15)):
            for met in (1, 5):
                net = tail_and_circles(tail, circles)
                reds, blues = [1] + [0] * (tail + circles), [0] * (tail + circles + 1)
                blues[met] = 1
                cars = ([0] * met + [1, 0] * 20)[:tail]
                one = (tuple(reds), tuple(blues), tuple(cars + [0, 0] * circles))
                two = (tuple(reds), tuple(blues), tuple(cars + [1, 1] * circles))
                row = self.check(net, one, two)
                self.assertEqual({colour for _, colour in row}, {"red", "blue"})
                self.check(net, two, one)

    def test_a_wide_circle_far_off(self):
        for size in (3, 9, 16):
            tail = 24 - size
            ropes = [(k, k + 1) for k in range(tail)] + [(k, k + 1) for k in range(tail, 23)] + [(23, tail)]
            net = Net(24, ropes)
            guests = (1,) + (0,) * 23
            one, two = (guests, (0,) * 24, (0,) * 24), (guests, (0,) * 24, (0,) * tail + (1,) * size)
            self.assertEqual(len(self.check(net, one, two)), 2 * tail + size)

    def test_circles_that_the_bill_gives_to_red_guests(self):
        # Cheapest ways of several guests make a whole circle here, which no guest of the bill can begin.
        for net, one, two in (
                (Net(4, [(0, 1), (1, 2), (1, 3), (2, 3), (0, 2), (2, 0), (3, 0), (0, 3)]),
                 ((1, 0, 0, 1), (0, 0, 0, 0), (1, 0, 1, 1, 0, 1, 0, 0)),
                 ((0, 1, 1, 0), (0, 0, 0, 0), (1, 0, 0, 1, 0, 0, 1, 1))),
                (Net(4, [(2, 0), (3, 1), (2, 1), (2, 3), (0, 2), (2, 1), (0, 1)]),
                 ((1, 1, 0, 0), (0, 0, 1, 0), (0, 1, 1, 0, 0, 0, 1)),
                 ((0, 0, 0, 2), (0, 0, 1, 0), (0, 0, 0, 1, 1, 1, 1))),
                (Net(6, [(3, 4), (2, 5), (1, 5), (5, 3), (0, 1), (3, 2), (4, 5), (5, 3), (4, 0), (2, 0), (2, 1)]),
                 ((0, 0, 0, 1, 0, 1), (0, 0, 0, 0, 0, 0), (0, 1, 0, 0, 0, 1, 0, 1, 1, 1, 0)),
                 ((0, 0, 1, 0, 1, 0), (0, 0, 0, 0, 0, 0), (1, 0, 0, 1, 0, 1, 0, 0, 1, 1, 0)))):
            self.check(net, one, two)
            self.check(net, two, one)
            checked = [self.check_with_a_far_circle(net, station, one, two) for station in range(net.stations)]
            self.assertTrue(any(checked))

    def check_with_a_far_circle(self, net, station, one, two):
        """The same, when a circle that hangs on the station has to be turned, too."""
        last = net.stations
        wider = Net(last + 2, list(net.ropes) + [(station, last), (last, last + 1), (last + 1, last)])
        one = (one[0] + (0, 0), one[1] + (0, 0), one[2] + (0, 0, 0))
        two = (two[0] + (0, 0), two[1] + (0, 0), two[2] + (0, 1, 1))
        if not are_alike(standing_of(wider, one), standing_of(wider, two)):
            return False
        self.check(wider, one, two)
        return True

    def test_many_nets(self):
        rng = Random(50)
        for _ in range(150):
            stations = rng.randrange(3, 9)
            ropes = list(some_tree(stations, rng).ropes)
            for _ in range(rng.randrange(1, 7)):
                start = rng.randrange(stations)
                ropes.append((start, (start + 1 + rng.randrange(stations - 1)) % stations))
            net = Net(stations, ropes)
            place = some_place(net, rng.randrange(3), rng.randrange(3), rng)
            _, places = some_row(net, place, rng.randrange(1, 120), rng)
            self.check(net, place, places[-1])

    def test_nothing_to_do(self):
        for net in TREES + RINGS + OTHERS + CIRCLES + [great_net()]:
            here = standing_of(net, some_place(net, 2, 2, Random(45)))
            self.assertEqual((plan_of(here, here), range_of_rows(here, here)), ([], (0, 0)))


class Errors(Case):

    def test_other_nets(self):
        here = Standing.gathered(Net.row(3), 1, 1)
        for net in (Net.row(2), Net.ring(3), great_net()):
            for entry in (plan_of, range_of_rows):
                self.fails(lambda: entry(here, Standing.gathered(net, 0, 1)), OtherNet)

    def test_apart(self):
        net = CIRCLES[1]
        here = Standing(net, [1, 0, 0, 0, 0], [0] * 5, [1, 1, 0, 0, 0])
        for there, why in ((Standing(net, [2, 0, 0, 0, 0], [0] * 5, [1, 1, 0, 0, 0]), ("reds", 1, 2)),
                           (Standing(net, [0, 1, 0, 0, 0], [0] * 5, [1, 1, 0, 0, 0]), ("book", 0, 1, 0)),
                           (Standing(net, [1, 0, 0, 0, 0], [0] * 5, [1, 1, 1, 1, 1]), ("rope", 2))):
            self.assertEqual(difference_of(here, there), why)
            for entry in (plan_of, range_of_rows):
                self.fails(lambda: entry(here, there), Apart, why)

    def test_apart_in_the_order_of_the_parameters(self):
        rng, net = Random(46), great_net()
        for _ in range(4):
            one, two = [standing_of(net, some_place(net, 5, 5, rng)) for _ in range(2)]
            for entry in (plan_of, range_of_rows):
                self.fails(lambda: entry(one, two), Apart, difference_of(one, two))
                self.fails(lambda: entry(two, one), Apart, difference_of(two, one))
            self.assertEqual(place_of(one), place_of(one))


if __name__ == "__main__":
    unittest.main()
