"""Points 41 to 43: round a ring, its bills and its least rows."""

import unittest
from random import Random

from case import FAR, Case
from oracle import (OTHERS, RINGS, kinds_of, great_net, moves, place_of, places_with, small_kinds, some_place, some_row,
                    standing_of, steps_from, walked)
from twinrope.errors import Apart, BrokenRow, NoColour, NoRope, NotARing, OtherNet
from twinrope.floors import floor_number
from twinrope.kinship import difference_of
from twinrope.nets import Net
from twinrope.rings import (best_turns, ring_bill, ring_cost, ring_number, ring_order, ring_row, ring_useful, turn_of)
from twinrope.standings import Standing

TOTALS = [(0, 0), (1, 0), (0, 1), (1, 1), (2, 0), (2, 1), (1, 2)]
NO_RINGS = OTHERS + [Net(1, []), Net.row(2), Net.row(5), Net.star(4), great_net(),
                     Net(4, [(0, 1), (1, 0), (2, 3), (3, 2), (1, 2)])]
ENTRIES = (best_turns, ring_number, ring_useful, ring_row)


def some_ring(stations, rng):
    """A ring whose stations and ropes stand in any order."""
    names = list(range(stations))
    rng.shuffle(names)
    ropes = [(names[k], names[(k + 1) % stations]) for k in range(stations)]
    ropes = [pair[::-1] if rng.randrange(2) else pair for pair in ropes]
    rng.shuffle(ropes)
    return Net(stations, ropes)


def order_of(net):
    """The order of point 41, found by the stations that are still without a pair."""
    rope = min(rope for rope, ends in enumerate(net.ropes) if 0 in ends)
    order, station = [], 0
    while len(order) < len(net.ropes):
        order.append((station, rope))
        start, end = net.ropes[rope]
        station = start + end - station
        used = [other for _, other in order]
        rope = min((other for other, ends in enumerate(net.ropes) if station in ends and other not in used), default=-1)
    return order


def crossings_round(net, place, rides):
    """How often each colour crosses each rope of the order clockwise, less the other way."""
    order = order_of(net)
    counts = {rope: [0, 0] for _, rope in order}
    for rope, colour in rides:
        after = dict(moves(net, place))[rope, colour]
        guests = 0 if colour == "red" else 1
        station = {other: start for start, other in order}[rope]
        counts[rope][guests] += place[guests][station] - after[guests][station]
        place = after
    return [tuple(counts[rope]) for _, rope in order]


class Order(Case):

    def test_orders(self):
        for net, order in ((Net.ring(2), [(0, 0), (1, 1)]), (Net.ring(4), [(0, 0), (1, 1), (2, 2), (3, 3)]),
                           (Net(2, [(1, 0), (0, 1)]), [(0, 0), (1, 1)]),
                           (Net(3, [(2, 1), (0, 1), (0, 2)]), [(0, 1), (1, 0), (2, 2)]),
                           (Net(4, [(0, 2), (1, 2), (3, 1), (3, 0)]), [(0, 0), (2, 1), (1, 2), (3, 3)])):
            self.assertEqual(ring_order(net), order)
            self.assertEqual(order_of(net), order)

    def test_all_ropes_are_named(self):
        rng = Random(31)
        for stations in (2, 3, 5, 24):
            for _ in range(4):
                net = some_ring(stations, rng)
                order = ring_order(net)
                self.assertEqual(order, order_of(net))
                self.assertEqual(sorted(rope for _, rope in order), list(range(stations)))
                self.assertEqual(sorted(station for station, _ in order), list(range(stations)))


class SmallRings(Case):

    def test_the_example(self):
        net = Net.ring(2)
        first = Standing(net, [1, 0], [1, 0], [0, 0])
        second = Standing(net, [0, 1], [0, 1], [0, 0])
        self.assertEqual(best_turns(first, second), [0, 1])
        self.assertEqual([ring_bill(first, second, turn) for turn in (0, 1)], [[(0, 0), (-1, -1)], [(1, 1), (0, 0)]])
        self.assertEqual([ring_cost(first, second, turn) for turn in (-1, 0, 1, 2)], [6, 2, 2, 6])
        self.assertEqual((ring_number(first, second), ring_useful(first, second)), (2, [(0, "red"), (1, "blue")]))
        self.assertEqual(ring_row(first, second), [(0, "red"), (0, "blue")])

    def test_a_rope_with_two_useful_rides(self):
        net = Net.ring(2)
        first = Standing(net, [1, 0], [0, 1], [0, 0])
        second = Standing(net, [1, 0], [0, 1], [1, 1])
        self.assertEqual(ring_useful(first, second), [(0, "red"), (0, "blue")])
        self.assertEqual((best_turns(first, second), ring_number(first, second)), ([0, 1], 2))

    def test_a_best_turn_that_needs_a_blue_guest(self):
        net = Net.ring(2)
        first = Standing(net, [1, 0], [0, 0], [0, 0])
        second = Standing(net, [1, 0], [0, 0], [1, 1])
        self.assertEqual(best_turns(first, second), [0, 1])
        self.assertEqual(ring_useful(first, second), [(0, "red")])
        self.assertEqual(ring_row(first, second), [(0, "red"), (1, "red")])

    def test_no_guests(self):
        for net in RINGS + [Net.ring(24)]:
            here = standing_of(net, some_place(net, 0, 0, Random(32)))
            self.assertEqual((best_turns(here, here), ring_number(here, here)), ([0], 0))
            self.assertEqual((ring_useful(here, here), ring_row(here, here)), ([], []))
            self.assertEqual(ring_bill(here, here, -7), [(-7, -7)] * net.stations)
            self.assertEqual(turn_of(here, []), 0)
        here = Standing(Net.ring(3), [0] * 3, [0] * 3, [0, 0, 0])
        there = Standing(Net.ring(3), [0] * 3, [0] * 3, [1, 1, 1])
        for entry in ENTRIES:
            self.fails(lambda: entry(here, there), Apart, ("rope", 0))

    def test_against_all_alike_standings(self):
        for net, kind in small_kinds(RINGS, TOTALS):
            for two in kind[::1 + len(kind) // 3]:
                far = steps_from(net, two)
                for one in kind[::1 + len(kind) // 4]:
                    self.check_pair(net, one, two, far)

    def check_pair(self, net, one, two, far):
        first, second = standing_of(net, one), standing_of(net, two)
        self.assertEqual(ring_number(first, second), far[one])
        self.assertEqual(floor_number(first, second), far[one])
        costs = {turn: ring_cost(first, second, turn) for turn in range(-8, 9)}
        least = min(costs.values())
        self.assertEqual(least, far[one])
        self.assertEqual(best_turns(first, second), [turn for turn in costs if costs[turn] == least])
        useful = [ride for ride, after in moves(net, one) if far[after] == far[one] - 1]
        self.assertEqual(ring_useful(first, second), useful)
        self.assertEqual(bool(useful), one != two)
        here = one
        row = ring_row(first, second)
        self.assertEqual(len(row), far[one])
        for ride in row:
            found = [(other, after) for other, after in moves(net, here) if far[after] == far[here] - 1]
            self.assertEqual(found[0][0], ride)
            here = found[0][1]
        self.assertEqual(here, two)

    def test_the_turn_of_a_row_gives_its_bill(self):
        rng = Random(33)
        for net in RINGS + [some_ring(24, rng), some_ring(7, rng)]:
            turns = set()
            for totals in ((1, 0), (0, 1), (1, 1), (4, 5), (15, 15)):
                for length in (0, 1, 30, 200):
                    rides, places = some_row(net, some_place(net, *totals, rng), length, rng)
                    first, second = standing_of(net, places[0]), standing_of(net, places[-1])
                    pairs = crossings_round(net, places[0], rides)
                    turn = turn_of(first, rides)
                    turns.add(turn)
                    self.assertEqual(turn, pairs[0][0])
                    self.assertEqual(ring_bill(first, second, turn), pairs)
                    self.assertEqual(ring_cost(first, second, turn), sum(abs(x) + abs(y) for x, y in pairs))
            self.assertGreater(len(turns), 1)

    def test_the_turns_of_least_rows_are_best(self):
        for net, kind in small_kinds(RINGS[:3], [(1, 0), (1, 1), (2, 1)]):
            for one in kind[::1 + len(kind) // 4]:
                turns = {one: {0}}
                far = steps_from(net, one)
                rope = order_of(net)[0][1]
                for here in sorted(far, key=far.get):
                    for ride, after in moves(net, here):
                        if far[after] == far[here] + 1:
                            step = here[0][0] - after[0][0] if ride == (rope, "red") else 0
                            turns.setdefault(after, set()).update(turn + step for turn in turns[here])
                for two in kind:
                    best = best_turns(standing_of(net, one), standing_of(net, two))
                    self.assertLessEqual(turns[two], set(best))


class GreatRings(Case):

    def test_the_greatest_rings(self):
        rng = Random(34)
        for net in (Net.ring(24), some_ring(24, rng)):
            for totals in ((15, 15), (30, 0), (1, 29), (1, 0)):
                _, places = some_row(net, some_place(net, *totals, rng), 700, rng)
                self.check(net, places[0], places[-1])

    def test_guests_on_the_far_side(self):
        for net in (Net.ring(24), Net(24, [pair[::-1] for pair in Net.ring(24).ropes])):
            guests = [15] + [0] * 23
            self.check(net, (tuple(guests), tuple(guests), (0,) * 24),
                       (tuple(guests[12:] + guests[:12]), tuple(guests[12:] + guests[:12]), (0,) * 24))

    def check(self, net, one, two):
        first, second = standing_of(net, one), standing_of(net, two)
        number = ring_number(first, second)
        turns = best_turns(first, second)
        self.assertEqual([ring_cost(first, second, turn) for turn in turns], [number] * len(turns))
        self.assertEqual(turns, list(range(turns[0], turns[-1] + 1)))
        for turn in (turns[0] - 1, turns[-1] + 1):
            self.assertGreater(ring_cost(first, second, turn), number)
        self.assertEqual(number, floor_number(first, second))
        row = ring_row(first, second)
        self.assertEqual((len(row), walked(net, one, row)), (number, two))
        self.assertIn(turn_of(first, row), turns)
        here = one
        for at, ride in enumerate(row[:60]):
            after = dict(moves(net, here))
            if at % 10 == 0:
                useful = [other for other in after
                          if ring_number(standing_of(net, after[other]), second) == number - at - 1]
                self.assertEqual(ring_useful(standing_of(net, here), second), useful)
                self.assertEqual(ride, useful[0])
            here = after[ride]

    def test_far_turns(self):
        rng = Random(35)
        net = Net.ring(24)
        _, places = some_row(net, some_place(net, 9, 9, rng), 300, rng)
        first, second = standing_of(net, places[0]), standing_of(net, places[-1])
        pairs = ring_bill(first, second, 0)
        for turn in (FAR, -FAR, 10 ** 18 - 1, 1 - 10 ** 18):
            self.assertEqual(ring_bill(first, second, turn), [(x + turn, y + turn) for x, y in pairs])
            self.assertEqual(ring_cost(first, second, turn), sum(abs(x + turn) + abs(y + turn) for x, y in pairs))


class Errors(Case):

    def entries(self, first, second):
        return [lambda: ring_bill(first, second, FAR), lambda: ring_cost(first, second, -1)] + [
            (lambda entry: lambda: entry(first, second))(entry) for entry in ENTRIES]

    def test_not_a_ring(self):
        for net in NO_RINGS:
            here = Standing.gathered(net, 1, 1)
            for other in (here, Standing.gathered(Net.ring(3), 1, 1), Standing.gathered(net, 0, 1)):
                for entry in self.entries(here, other):
                    self.fails(entry, NotARing)
            self.fails(lambda: ring_order(net), NotARing)
            self.fails(lambda: turn_of(here, [(-1, "green")]), NotARing)

    def test_other_nets(self):
        here = Standing.gathered(Net.ring(3), 1, 1)
        for net in (Net.ring(2), Net.row(3), great_net(), Net(3, [(0, 1), (1, 2), (0, 2)])):
            for entry in self.entries(here, Standing.gathered(net, 0, 2)):
                self.fails(entry, OtherNet)

    def test_apart(self):
        net = Net.ring(3)
        here = Standing(net, [1, 0, 0], [0, 0, 1], [0, 0, 0])
        for there, why, back in (
                (Standing(net, [2, 0, 0], [0, 0, 1], [0, 0, 0]), ("reds", 1, 2), ("reds", 2, 1)),
                (Standing(net, [0, 1, 0], [0, 0, 1], [0, 0, 0]), ("book", 0, 0, -1), ("book", 0, -1, 0)),
                (Standing(net, [1, 0, 0], [0, 0, 2], [0, 0, 0]), ("book", 2, -2, -3), ("book", 2, -3, -2))):
            self.assertEqual(difference_of(here, there), why)
            for entry in self.entries(here, there):
                self.fails(entry, Apart, why)
            for entry in self.entries(there, here):
                self.fails(entry, Apart, back)

    def test_apart_exactly_if_not_of_one_kind(self):
        for net in RINGS[:3]:
            for kind in kinds_of(net, 1, 1):
                for place in places_with(net, 1, 1)[::7]:
                    first, second = standing_of(net, kind[0]), standing_of(net, place)
                    if place in kind:
                        self.assertEqual(walked(net, kind[0], ring_row(first, second)), place)
                    else:
                        self.fails(lambda: ring_row(first, second), Apart, difference_of(first, second))

    def test_rides_of_turn_of(self):
        here = Standing(Net.ring(3), [1, 0, 0], [0, 0, 0], [0, 0, 0])
        for rope in (-1, 3, FAR, -FAR):
            self.fails(lambda: turn_of(here, [(1, "red"), (rope, "green")]), NoRope, rope)
        self.fails(lambda: turn_of(here, [(1, "red"), (2, "green"), (9, "red")]), NoColour, "green")
        self.fails(lambda: turn_of(here, [(0, "red"), (1, "blue"), (2, "blue")]), BrokenRow, 1, 1, "blue")
        self.assertEqual(turn_of(here, [(0, "red"), (0, "red"), (0, "red")]), 1)
        self.assertEqual(turn_of(Standing(Net.ring(2), [1, 0], [0, 0], [0, 1]), [(0, "red"), (0, "red")] * 2500), 0)
        self.assertEqual(place_of(here), ((1, 0, 0), (0, 0, 0), (0, 0, 0)))

    def test_blue_rides_do_not_count_for_the_turn(self):
        here = Standing(Net.ring(2), [0, 0], [1, 0], [1, 1])
        self.assertEqual(turn_of(here, [(0, "blue"), (1, "blue")]), 0)
        red = Standing(Net.ring(2), [1, 0], [0, 0], [1, 1])
        self.assertEqual(turn_of(red, [(1, "red"), (0, "red")]), -1)


if __name__ == "__main__":
    unittest.main()
