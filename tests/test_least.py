"""Points 25 and 26: crossings and least rows on a tree."""

import unittest
from random import Random

from case import Case
from oracle import (OTHERS, RINGS, TREES, great_net, great_tree, moves, place_of, side_of, small_kinds, some_place,
                    some_row, standing_of, steps_from)
from twinrope.errors import Apart, NotATree, OtherNet
from twinrope.kinship import difference_of
from twinrope.least import crossings_of, least_number, least_row, useful_rides
from twinrope.nets import Net
from twinrope.rides import end_of
from twinrope.standings import Standing

ENTRIES = (crossings_of, least_number, useful_rides, least_row)


def sides_of(net):
    """The stations on the side of its second end, for each rope."""
    return [side_of(net, second, rope) for rope, (_, second) in enumerate(net.ropes)]


def sums_of(sides, first, second):
    """The crossings of point 25, by counting the guests of each side."""
    found = []
    for side in sides:
        reds = sum(second[0][s] for s in side) - sum(first[0][s] for s in side)
        blues = sum(second[1][s] for s in side) - sum(first[1][s] for s in side)
        found.append((reds, blues))
    return found


def size_of(pairs):
    return sum(abs(x) + abs(y) for x, y in pairs)


def crossings_of_row(net, places, rides):
    """What each colour crosses each rope from its first to its second end, less the other way."""
    counts = [[0, 0] for _ in net.ropes]
    for place, (rope, colour) in zip(places, rides):
        red = colour == "red"
        from_first = (place[2][rope] == 0) == red
        counts[rope][0 if red else 1] += 1 if from_first else -1
    return [tuple(pair) for pair in counts]


class SmallTrees(Case):

    def test_the_example(self):
        net = Net.row(2)
        first = Standing(net, [1, 0], [1, 0], [0])
        second = Standing(net, [0, 1], [0, 1], [0])
        self.assertEqual(least_row(first, second), [(0, "red"), (0, "blue")])
        self.assertEqual(crossings_of(first, second), [(1, 1)])
        self.assertEqual(crossings_of(second, first), [(-1, -1)])
        self.assertEqual(least_number(first, second), 2)
        self.assertEqual(useful_rides(first, second), [(0, "red")])
        self.assertEqual(useful_rides(second, first), [(0, "blue")])

    def test_a_turned_rope(self):
        net = Net(2, [(1, 0)])
        first = Standing(net, [1, 0], [1, 0], [0])
        second = Standing(net, [0, 1], [0, 1], [0])
        self.assertEqual(crossings_of(first, second), [(-1, -1)])
        self.assertEqual(least_row(first, second), [(0, "blue"), (0, "red")])

    def test_the_first_useful_ride_is_taken(self):
        net = Net.star(4)
        first = Standing(net, [2, 0, 0, 0], [1, 0, 0, 0], [0, 1, 0])
        rides = [(2, "red"), (1, "blue"), (0, "red")]
        second = end_of(first, *rides)
        self.assertEqual(useful_rides(first, second), [(0, "red"), (1, "blue"), (2, "red")])
        self.assertEqual(least_row(first, second), rides[::-1])

    def test_one_station(self):
        here = Standing(Net(1, []), [3], [4], [])
        self.assertEqual([entry(here, here) for entry in ENTRIES], [[], 0, [], []])

    def check_pair(self, net, sides, one, two, far):
        first, second = standing_of(net, one), standing_of(net, two)
        pairs = crossings_of(first, second)
        self.assertEqual(pairs, sums_of(sides, one, two))
        self.assertTrue(all(abs(x - y) <= 1 and x * y >= 0 for x, y in pairs))
        self.assertEqual(least_number(first, second), far[one])
        useful = [ride for ride, after in moves(net, one) if far[after] == far[one] - 1]
        self.assertEqual(useful_rides(first, second), useful)
        self.assertEqual(len({rope for rope, _ in useful}), len(useful))
        self.assertEqual(bool(useful), one != two)
        self.check_row(net, one, two, far)

    def check_row(self, net, one, two, far):
        row = least_row(standing_of(net, one), standing_of(net, two))
        self.assertEqual(len(row), far[one])
        here = one
        for ride in row:
            useful = [(other, after) for other, after in moves(net, here) if far[after] == far[here] - 1]
            self.assertEqual(useful[0][0], ride)
            here = useful[0][1]
        self.assertEqual(here, two)

    def test_against_all_alike_standings(self):
        for net, kind in small_kinds(TREES, [(0, 0), (1, 0), (1, 1), (2, 1), (1, 2), (2, 2), (0, 3)]):
            sides = sides_of(net)
            for two in kind[::1 + len(kind) // 3]:
                far = steps_from(net, two)
                for one in kind[::1 + len(kind) // 5]:
                    self.check_pair(net, sides, one, two, far)

    def test_every_row_has_these_crossings(self):
        rng = Random(12)
        for net in TREES + [great_tree()]:
            for _ in range(5):
                rides, places = some_row(net, some_place(net, 3, 2, rng), 30, rng)
                first, second = standing_of(net, places[0]), standing_of(net, places[-1])
                self.assertEqual(crossings_of(first, second), crossings_of_row(net, places, rides))
                least = least_number(first, second)
                self.assertLessEqual(least, len(rides))
                self.assertEqual((len(rides) - least) % 2, 0)


class GreatTrees(Case):

    def check(self, net, one, two):
        first, second = standing_of(net, one), standing_of(net, two)
        sides = sides_of(net)
        pairs = sums_of(sides, one, two)
        self.assertEqual(crossings_of(first, second), pairs)
        self.assertEqual(least_number(first, second), size_of(pairs))
        row = least_row(first, second)
        self.assertEqual(len(row), size_of(pairs))
        here, left = one, size_of(pairs)
        for at, ride in enumerate(row):
            left -= 1
            after = dict(moves(net, here))
            if at % 10 == 0:
                useful = [other for other in after if size_of(sums_of(sides, after[other], two)) == left]
                self.assertEqual(useful_rides(standing_of(net, here), second), useful)
                self.assertEqual(useful[0], ride)
            here = after[ride]
        self.assertEqual(here, two)

    def test_many_stations_and_guests(self):
        rng = Random(13)
        for net in (Net.row(24), Net.star(24), great_tree(), great_tree(2)):
            for totals in ((15, 15), (30, 0), (3, 2)):
                rides, places = some_row(net, some_place(net, *totals, rng), 1500, rng)
                self.check(net, places[0], places[-1])

    def test_the_longest_row(self):
        net = Net.row(24)
        one = ((15,) + (0,) * 23, (15,) + (0,) * 23, (0,) * 23)
        two = ((0,) * 23 + (15,), (0,) * 23 + (15,), (0,) * 23)
        self.check(net, one, two)
        self.assertEqual(least_number(standing_of(net, one), standing_of(net, two)), 690)

    def test_nothing_to_do(self):
        net = great_tree()
        here = standing_of(net, some_place(net, 12, 18, Random(14)))
        self.assertEqual([entry(here, here) for entry in ENTRIES], [[(0, 0)] * 23, 0, [], []])


class LeastErrors(Case):

    def test_not_a_tree(self):
        for net in RINGS + OTHERS + [great_net()]:
            here, there = Standing.gathered(net, 1, 1), Standing.gathered(Net.row(3), 2, 2)
            for entry in ENTRIES:
                self.fails(lambda: entry(here, here), NotATree)
                self.fails(lambda: entry(here, there), NotATree)
                self.fails(lambda: entry(here, Standing.gathered(net, 0, 1)), NotATree)

    def test_other_nets(self):
        here = Standing.gathered(Net.row(3), 1, 1)
        for net in (Net.star(3), Net.row(2), Net.ring(3), great_net(), Net(3, [(1, 0), (1, 2)])):
            for entry in ENTRIES:
                self.fails(lambda: entry(here, Standing.gathered(net, 2, 1)), OtherNet)

    def test_apart(self):
        def made(reds, blues, cars):
            return Standing(Net.row(3), reds, blues, cars)
        here = made([1, 0, 0], [0, 0, 1], [0, 0])
        cases = [
            (made([1, 1, 0], [0, 0, 1], [0, 0]), ("reds", 1, 2), ("reds", 2, 1)),
            (made([0, 0, 0], [1, 0, 0], [1, 1]), ("reds", 1, 0), ("reds", 0, 1)),
            (made([0, 1, 0], [0, 0, 1], [0, 0]), ("book", 0, 0, -1), ("book", 0, -1, 0)),
            (made([1, 0, 0], [0, 0, 1], [0, 1]), ("book", 1, -1, 0), ("book", 1, 0, -1)),
            (made([1, 0, 0], [0, 0, 2], [0, 0]), ("book", 2, -1, -2), ("book", 2, -2, -1)),
        ]
        for there, why, back in cases:
            self.assertEqual(difference_of(here, there), why)
            for entry in ENTRIES:
                self.fails(lambda: entry(here, there), Apart, why)
                self.fails(lambda: entry(there, here), Apart, back)

    def test_apart_on_great_trees(self):
        net, rng = great_tree(), Random(15)
        for _ in range(5):
            one, two = some_place(net, 15, 15, rng), some_place(net, 15, 15, rng)
            first, second = standing_of(net, one), standing_of(net, two)
            for entry in ENTRIES:
                self.fails(lambda: entry(first, second), Apart, difference_of(first, second))
            self.assertEqual((place_of(first), place_of(second)), (one, two))


if __name__ == "__main__":
    unittest.main()
