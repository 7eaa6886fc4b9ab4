"""Points 27 and 28: the runs of each rope in least rows, and fares."""

import unittest
from heapq import heappop, heappush
from random import Random

from case import FAR, Case
from oracle import (OTHERS, RINGS, TREES, great_net, great_tree, moves, place_of, small_kinds, some_place, some_row,
                    standing_of, steps_from)
from twinrope.errors import Apart, BadFare, NoColour, NoRope, NotATree, OtherNet
from twinrope.least import least_number, least_row
from twinrope.nets import Net
from twinrope.runs import colours_of_runs, least_fare, runs_between, sure_ropes, trip_fare
from twinrope.standings import Standing

TOTALS = [(0, 0), (1, 0), (1, 1), (2, 1), (1, 2), (2, 2), (0, 3)]


def least_rows(net, one, two, far, most):
    """At most so many of all the least rows from one place to the other; far tells the way to the second."""
    rows = [([], one)]
    for left in range(far[one] - 1, -1, -1):
        rows = [(row + [ride], after) for row, here in rows for ride, after in moves(net, here)
                if far[after] == left]
        rows = rows[::1 + len(rows) // most]
    return [row for row, _ in rows]


def runs_in(net, row):
    return [sum(1 for rope, _ in row if rope == k) for k in range(len(net.ropes))]


def cheapest(net, one, fares):
    """The least fare from the place to each place of its kind."""
    best, queue = {}, [(0, one)]
    while queue:
        cost, here = heappop(queue)
        if here not in best:
            best[here] = cost
            for (rope, colour), after in moves(net, here):
                heappush(queue, (cost + fares[0 if colour == "red" else 1][rope], after))
    return best


class Runs(Case):

    def test_two_stations(self):
        net = Net.row(2)
        first = Standing(net, [2, 0], [1, 0], [0])
        second = Standing(net, [0, 2], [0, 1], [1])
        self.assertEqual(runs_between(first, second), [3])
        self.assertEqual(sure_ropes(first, second), [0])
        self.assertEqual(colours_of_runs(first, second, 0), ["red", "blue", "red"])
        self.assertEqual(colours_of_runs(second, first, 0), ["red", "blue", "red"])

    def test_the_car_at_the_leaving_end_begins(self):
        for ropes, cars in (([(0, 1)], (0, 1)), ([(1, 0)], (1, 0))):
            net = Net(2, ropes)
            for car, word in zip(cars, ("red", "blue")):
                first = Standing(net, [1, 0], [1, 0], [car])
                second = Standing(net, [0, 1], [0, 1], [car])
                other = "blue" if word == "red" else "red"
                self.assertEqual(colours_of_runs(first, second, 0), [word, other])
                self.assertEqual(colours_of_runs(second, first, 0), [other, word])

    def test_nothing_to_do(self):
        for net in TREES + [great_tree()]:
            here = standing_of(net, some_place(net, 3, 4, Random(1)))
            self.assertEqual(runs_between(here, here), [0] * len(net.ropes))
            self.assertEqual(sure_ropes(here, here), [])
            for rope in range(len(net.ropes)):
                self.assertEqual(colours_of_runs(here, here, rope), [])

    def test_all_least_rows(self):
        for net, kind in small_kinds(TREES, TOTALS):
            for two in kind[::1 + len(kind) // 3]:
                far = steps_from(net, two)
                for one in kind[::1 + len(kind) // 5]:
                    first, second = standing_of(net, one), standing_of(net, two)
                    runs = runs_between(first, second)
                    self.assertEqual(sum(runs), far[one])
                    colours = [colours_of_runs(first, second, rope) for rope in range(len(net.ropes))]
                    for row in least_rows(net, one, two, far, 40):
                        self.assertEqual(runs_in(net, row), runs)
                        self.assertEqual([[word for rope, word in row if rope == k] for k in range(len(runs))], colours)

    def reached_without(self, net, one, closed):
        """The places that rows reach without the rope."""
        seen, edge = {one}, [one]
        while edge:
            edge = [after for here in edge for (rope, _), after in moves(net, here) if rope != closed]
            edge = sorted(set(edge) - seen)
            seen.update(edge)
        return seen

    def test_sure_ropes_are_those_of_every_row(self):
        for net, kind in small_kinds(TREES, [(1, 0), (1, 1), (2, 1)]):
            for one in kind[::1 + len(kind) // 3]:
                without = [self.reached_without(net, one, rope) for rope in range(len(net.ropes))]
                for two in kind:
                    sure = [rope for rope, seen in enumerate(without) if two not in seen]
                    self.assertEqual(sure_ropes(standing_of(net, one), standing_of(net, two)), sure)

    def test_every_row_runs_as_often(self):
        rng = Random(2)
        for net in TREES + [great_tree()]:
            for _ in range(5):
                rides, places = some_row(net, some_place(net, 3, 2, rng), 40, rng)
                first, second = standing_of(net, places[0]), standing_of(net, places[-1])
                for runs, least in zip(runs_in(net, rides), runs_between(first, second)):
                    self.assertGreaterEqual(runs, least)

    def test_great_trees(self):
        rng = Random(3)
        for net in (Net.row(24), Net.star(24), great_tree()):
            rides, places = some_row(net, some_place(net, 15, 15, rng), 1500, rng)
            first, second = standing_of(net, places[0]), standing_of(net, places[-1])
            row = least_row(first, second)
            runs = runs_in(net, row)
            self.assertEqual(runs_between(first, second), runs)
            self.assertEqual(sure_ropes(first, second), [rope for rope, many in enumerate(runs) if many])
            for k in range(23):
                self.assertEqual(colours_of_runs(first, second, k), [word for rope, word in row if rope == k])

    def test_the_longest_row(self):
        net = Net.row(24)
        first = Standing(net, [15] + [0] * 23, [15] + [0] * 23, [1] * 23)
        second = Standing(net, [0] * 23 + [15], [0] * 23 + [15], [1] * 23)
        self.assertEqual(runs_between(first, second), [30] * 23)
        self.assertEqual(colours_of_runs(first, second, 22), ["blue", "red"] * 15)
        self.assertEqual(least_fare(first, second, [10 ** 17] * 23, [1] * 23), 23 * 15 * (10 ** 17 + 1))


class Fares(Case):

    def test_trip_fare(self):
        self.assertEqual(trip_fare([], [], []), 0)
        self.assertEqual(trip_fare([5], [7], []), 0)
        self.assertEqual(trip_fare([5, 0, 2], [7, 100, 1], [(0, "red"), (0, "blue"), (2, "red"), (1, "red")]), 14)
        self.assertEqual(trip_fare([1] * 50, [2] * 50, [(49, "blue")] * 5000), 10000)
        self.assertEqual(trip_fare([FAR], [3 * FAR], [(0, "blue"), (0, "red")] * 2000), 8000 * FAR)

    def test_least_fare_against_all_rows(self):
        rng = Random(4)
        for net, kind in small_kinds(TREES, TOTALS):
            fares = [[rng.choice((0, 1, 2, 50)) for _ in net.ropes] for _ in range(2)]
            for one in kind[::1 + len(kind) // 2]:
                best = cheapest(net, one, fares)
                for two in kind[::1 + len(kind) // 20]:
                    first, second = standing_of(net, one), standing_of(net, two)
                    self.assertEqual(least_fare(first, second, *fares), best[two])
                    self.assertEqual(trip_fare(*fares, least_row(first, second)), best[two])
                    ones = [1] * len(net.ropes)
                    self.assertEqual(least_fare(first, second, ones, ones), least_number(first, second))

    def test_great_trees(self):
        rng = Random(5)
        for net in (Net.row(24), Net.star(24), great_tree()):
            fares = [[rng.randrange(10 ** 18) for _ in range(23)] for _ in range(2)]
            rides, places = some_row(net, some_place(net, 17, 13, rng), 1500, rng)
            first, second = standing_of(net, places[0]), standing_of(net, places[-1])
            row = least_row(first, second)
            paid = sum(fares[0 if word == "red" else 1][rope] for rope, word in row)
            self.assertEqual(least_fare(first, second, *fares), paid)
            self.assertEqual(trip_fare(*fares, row), paid)
            self.assertLessEqual(paid, trip_fare(*fares, rides))


class Errors(Case):

    def entries(self, first, second, rope=0, fares=((), ())):
        return [lambda: runs_between(first, second), lambda: sure_ropes(first, second),
                lambda: colours_of_runs(first, second, rope), lambda: least_fare(first, second, *map(list, fares))]

    def test_not_a_tree(self):
        for net in RINGS + OTHERS + [great_net()]:
            here = Standing.gathered(net, 1, 1)
            for there in (here, Standing.gathered(net, 0, 3), Standing.gathered(Net.row(3), 1, 1)):
                for entry in self.entries(here, there, -1):
                    self.fails(entry, NotATree)

    def test_other_net(self):
        here = Standing.gathered(Net.row(3), 1, 1)
        for net in (Net.star(3), Net.row(2), Net.ring(3), great_net()):
            for entry in self.entries(here, Standing.gathered(net, 0, 3), FAR, ([-1], [])):
                self.fails(entry, OtherNet)

    def test_no_rope_comes_before_apart(self):
        here, there = Standing.gathered(Net.row(3), 1, 1), Standing.gathered(Net.row(3), 2, 1)
        for rope in (-1, 2, 3, FAR, -FAR):
            self.fails(lambda: colours_of_runs(here, here, rope), NoRope, rope)
            self.fails(lambda: colours_of_runs(here, there, rope), NoRope, rope)
        one = Standing(Net(1, []), [1], [0], [])
        self.fails(lambda: colours_of_runs(one, one, 0), NoRope, 0)

    def test_apart(self):
        net = Net.row(3)
        here = Standing(net, [1, 0, 0], [0, 0, 1], [0, 0])
        for there, why in ((Standing(net, [1, 1, 0], [0, 0, 1], [0, 0]), ("reds", 1, 2)),
                           (Standing(net, [0, 1, 0], [0, 0, 1], [0, 0]), ("book", 0, 0, -1)),
                           (Standing(net, [1, 0, 0], [0, 0, 2], [0, 0]), ("book", 2, -1, -2))):
            for entry in self.entries(here, there, 0, ([0, 0], [0, 0])):
                self.fails(entry, Apart, why)

    def test_bad_fares_of_a_net(self):
        net = Net.row(4)
        here, there = Standing.gathered(net, 1, 1), Standing.gathered(net, 2, 1)
        good = [0, 1, FAR]
        for bad, place in (([], -1), ([1, 2], -1), ([1, 2, 3, 4], -1), ([-1, 2], -1), ([-1, -1, 3], 0),
                           ([0, 1, -FAR], 2)):
            for second in (here, there):
                self.fails(lambda: least_fare(here, second, bad, good), BadFare, place)
                self.fails(lambda: least_fare(here, second, good, bad), BadFare, place)
                self.fails(lambda: least_fare(here, second, bad, [1, -1, 1]), BadFare, place)
                self.fails(lambda: least_fare(here, second, [1, 1, -1], bad), BadFare, 2)

    def test_bad_fares_of_a_trip(self):
        rides = [(9, "green")]
        for reds, blues, place in (([1, -1, -1], [1], 1), ([-FAR], [], 0), ([1], [], -1), ([], [1], -1),
                                   ([1, 1], [-1], -1), ([1, 1], [1, -1], 1), ([0, 0], [-1, -1], 0)):
            self.fails(lambda: trip_fare(reds, blues, rides), BadFare, place)

    def test_bad_rides_of_a_trip(self):
        for rope in (-1, 2, FAR, -FAR):
            self.fails(lambda: trip_fare([1, 1], [1, 1], [(0, "red"), (rope, "green")]), NoRope, rope)
        self.fails(lambda: trip_fare([], [], [(0, "red")]), NoRope, 0)
        for word in ("", "Red", "green"):
            self.fails(lambda: trip_fare([1, 1], [1, 1], [(1, word), (5, "red")]), NoColour, word)

    def test_arguments_stay(self):
        net = Net.row(3)
        first, second = Standing.gathered(net, 2, 1), Standing.gathered(net, 2, 1)
        reds, blues, rides = [1, 2], [3, 4], [(1, "red"), (0, "blue")]
        self.assertEqual((trip_fare(reds, blues, rides), least_fare(first, second, reds, blues)), (5, 0))
        self.assertEqual((reds, blues, rides), ([1, 2], [3, 4], [(1, "red"), (0, "blue")]))
        self.assertEqual(place_of(first), place_of(second))


if __name__ == "__main__":
    unittest.main()
