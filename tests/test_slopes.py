"""Point 37: slopes."""

import unittest
from itertools import product
from random import Random

from case import FAR, Case
from oracle import (OTHERS, TREES, book_of, great_net, great_tree, kinds_of, moves_home, places_with, ropes_from,
                    some_homeward_end, some_place, some_row, standing_of)
from twinrope.counts import kind_count
from twinrope.errors import BadCount, BadWidth, NoStation, NotSlopes, TooMany
from twinrope.homeward import homeward_row, homeward_standing, numbers_of
from twinrope.nets import Net
from twinrope.slopes import slope_homeward, slope_kind_count, slope_numbers, slope_rides, slope_tree, slopes_of
from twinrope.standings import Standing

WIDE = [
    Net(2, [(0, 1), (1, 0)]),
    Net(2, [(1, 0), (1, 0), (0, 1)]),
    Net(3, [(0, 1), (1, 2), (0, 1)]),
    Net(3, [(2, 1), (1, 0), (1, 2), (0, 1), (2, 1)]),
    Net(4, [(3, 0), (1, 0), (0, 2), (0, 3)]),
]
TOTALS = [(0, 0), (1, 0), (0, 2), (1, 1), (2, 1)]


def greatest():
    """A slope tree of 24 stations and 40 ropes."""
    ropes = list(great_tree().ropes)
    return Net(24, ropes + [pair[::-1] for pair in ropes[:11]] + ropes[8:14])


def slopes_in(net):
    pairs = sorted({(min(pair), max(pair)) for pair in net.ropes})
    return [(u, v, [rope for rope, pair in enumerate(net.ropes) if sorted(pair) == [u, v]]) for u, v in pairs]


def read_off(net, place, home):
    """The tuple of slope_homeward and the slope numbers, from a place without homeward rides."""
    far = ropes_from(net, home)
    lows, numbers = [], []
    for u, v, ropes in slopes_in(net):
        low = u if far[u] > far[v] else v
        lows.append(sum(1 for rope in ropes if net.ropes[rope][place[2][rope]] == low))
        numbers.append(place[0][low] - place[1][low] - lows[-1])
    return (list(place[0]), list(place[1]), lows), numbers


class Slopes(Case):

    def test_slopes_of(self):
        self.assertEqual(slopes_of(Net(1, [])), [])
        self.assertEqual(slopes_of(Net(3, [(2, 1), (1, 0), (1, 2), (0, 1), (2, 1)])),
                         [(0, 1, [1, 3]), (1, 2, [0, 2, 4])])
        for net in WIDE + OTHERS + TREES + [great_net(), greatest()]:
            self.assertEqual(slopes_of(net), slopes_in(net))

    def test_slope_tree(self):
        for net in WIDE + TREES + [greatest(), Net(2, [(0, 1)] * 40)]:
            self.assertIs(slope_tree(net), True)
        for net in (Net.ring(3), Net.ring(24), great_net(), OTHERS[3], OTHERS[4],
                    Net(3, [(0, 1), (1, 2), (2, 0), (0, 1)])):
            self.assertIs(slope_tree(net), False)

    def test_all_orders_on_small_nets(self):
        for net in WIDE:
            for totals in TOTALS:
                places = places_with(net, *totals)
                for place in places[::1 + len(places) // 25]:
                    for home in range(net.stations):
                        self.check(net, place, home)

    def check(self, net, place, home):
        far = ropes_from(net, home)
        ends, depths = set(), set()
        stack, seen = [(place, 0)], set()
        while stack:
            here, depth = stack.pop()
            if here in seen:
                continue
            seen.add(here)
            found = [after for _, after in moves_home(net, here, far)]
            if not found:
                ends.add(repr(read_off(net, here, home)))
                depths.add(depth)
            stack += [(after, depth + 1) for after in found]
        here = standing_of(net, place)
        answer = slope_homeward(here, home), slope_numbers(here, home)
        self.assertEqual(ends, {repr(answer)})
        self.assertEqual(depths, {slope_rides(here, home)})
        self.check_sorts(net, answer, home)

    def check_sorts(self, net, answer, home):
        (reds, blues, lows), numbers = answer
        far = ropes_from(net, home)
        for (u, v, ropes), low, number in zip(slopes_in(net), lows, numbers):
            width, station = len(ropes), u if far[u] > far[v] else v
            sort = (0, 0, -number)
            if number >= 0:
                sort = (number, 0, 0)
            elif number <= -width:
                sort = (0, -width - number, width)
            self.assertEqual((reds[station], blues[station], low), sort)

    def test_trees_are_slope_trees(self):
        rng = Random(23)
        for net in TREES + [great_tree()]:
            here = standing_of(net, some_place(net, 5, 6, rng))
            pairs = [ropes[0] for _, _, ropes in slopes_of(net)]
            for home in range(net.stations):
                there = homeward_standing(here, home)
                numbers = numbers_of(here, home)
                self.assertEqual(slope_numbers(here, home), [numbers[rope] for rope in pairs])
                self.assertEqual(slope_homeward(here, home)[:2], (list(there.reds), list(there.blues)))
                self.assertEqual(slope_rides(here, home), len(homeward_row(here, home)))

    def test_one_station(self):
        here = Standing(Net(1, []), [2], [3], [])
        self.assertEqual(slope_homeward(here, 0), ([2], [3], []))
        self.assertEqual((slope_numbers(here, 0), slope_rides(here, 0)), ([], 0))

    def test_the_greatest_net(self):
        rng = Random(24)
        net = greatest()
        self.assertEqual((net.stations, len(net.ropes)), (24, 40))
        for totals in ((15, 15), (30, 0), (0, 30), (0, 0)):
            _, places = some_row(net, some_place(net, *totals, rng), 150, rng)
            for home in (0, 9, 23):
                for place in (places[0], places[-1]):
                    end, depth = some_homeward_end(net, place, home, rng)
                    here = standing_of(net, place)
                    self.assertEqual((slope_homeward(here, home), slope_numbers(here, home)),
                                     read_off(net, end, home))
                    self.assertEqual(slope_rides(here, home), depth)
                numbers = [slope_numbers(standing_of(net, place), home) for place in places[::30]]
                self.assertEqual(numbers, [numbers[0]] * len(numbers))

    def test_forty_ropes_side_by_side(self):
        net = Net(2, [(0, 1)] * 40)
        here = Standing(net, [1, 0], [0, 3], [1] * 40)
        self.assertEqual(slope_homeward(here, 0), ([1, 0], [0, 3], [40]))
        self.assertEqual((slope_numbers(here, 0), slope_rides(here, 0)), ([-43], 0))
        self.assertEqual(slope_homeward(here, 1), ([1, 0], [0, 3], [0]))
        there = Standing(net, [0, 9], [0, 3], [1] * 30 + [0] * 10)
        self.assertEqual(slope_homeward(there, 0), ([9, 0], [3, 0], [24]))
        self.assertEqual((slope_numbers(there, 0), slope_rides(there, 0)), ([-24], 12))

    def test_same_books_exactly_if_the_same_numbers(self):
        for net in WIDE:
            for totals in TOTALS:
                for home in (0, net.stations - 1):
                    found = {}
                    for place in places_with(net, *totals):
                        books = tuple(book_of(net, place, station) for station in range(net.stations))
                        found.setdefault(books, set()).add(tuple(slope_numbers(standing_of(net, place), home)))
                    numbers = [item for many in found.values() for item in many]
                    self.assertTrue(all(len(many) == 1 for many in found.values()))
                    self.assertEqual(len(set(numbers)), len(numbers))
                    widths = [len(ropes) for _, _, ropes in slopes_of(net)]
                    self.assertEqual(slope_kind_count(widths, *totals), len(numbers))


def rows_of(widths, reds, blues):
    """How many rows of numbers there are, one by one."""
    def needs(number, width):
        return max(number, 0), max(-width - number, 0)
    ranges = [range(-width - blues, reds + 1) for width in widths]
    return sum(1 for row in product(*ranges)
               if sum(needs(*pair)[0] for pair in zip(row, widths)) <= reds
               and sum(needs(*pair)[1] for pair in zip(row, widths)) <= blues)


class SlopeCount(Case):

    def test_rows_one_by_one(self):
        for widths in ([], [1], [4], [1, 1], [2, 1], [3, 2], [1, 2, 3], [2, 2, 2], [1, 1, 1, 2]):
            for reds, blues in ((0, 0), (1, 0), (0, 2), (1, 1), (2, 1)):
                kept = list(widths)
                self.assertEqual(slope_kind_count(widths, reds, blues), rows_of(widths, reds, blues))
                self.assertEqual(widths, kept)

    def test_edges(self):
        self.assertEqual(slope_kind_count([], 30, 0), 1)
        self.assertEqual(slope_kind_count([40], 13, 17), 14 + 39 + 18)
        for many in (1, 2, 23, 40):
            self.assertEqual(slope_kind_count([1] * many, 15, 15), kind_count(many, 15, 15))
        self.assertEqual(slope_kind_count([2] * 20, 0, 0), 3 ** 20)
        self.assertEqual(slope_kind_count([1, 39], 0, 0), 80)

    def test_errors(self):
        for widths, place in (([0], 0), ([1, -1, 0], 1), ([FAR, 1, 0], 2), ([-FAR], 0)):
            self.fails(lambda: slope_kind_count(widths, -1, 50), BadWidth, place)
        for widths in ([41], [20, 21], [1] * 41, [FAR, FAR]):
            self.fails(lambda: slope_kind_count(widths, -1, 50), TooMany, 40)
        for widths in ([], [1, 2], [40]):
            self.fails(lambda: slope_kind_count(widths, -1, -2), BadCount, -1)
            self.fails(lambda: slope_kind_count(widths, FAR, -FAR), BadCount, -FAR)
            for reds, blues in ((31, 0), (0, 31), (15, 16), (FAR, FAR)):
                self.fails(lambda: slope_kind_count(widths, reds, blues), TooMany, 30)

    def test_shape_and_home(self):
        entries = (slope_homeward, slope_numbers, slope_rides)
        for net in (Net.ring(3), great_net(), OTHERS[3], OTHERS[4]):
            for home in (0, -1, FAR):
                for entry in entries:
                    self.fails(lambda: entry(Standing.gathered(net, 1, 1), home), NotSlopes)
        for net in WIDE + [Net(1, []), greatest()]:
            for home in (-1, net.stations, FAR, -FAR):
                for entry in entries:
                    self.fails(lambda: entry(Standing.gathered(net, 1, 1), home), NoStation, home)

    def test_kinds_of_trees(self):
        for net in TREES:
            self.assertEqual(slope_kind_count([1] * len(net.ropes), 2, 1), len(kinds_of(net, 2, 1)))


if __name__ == "__main__":
    unittest.main()
