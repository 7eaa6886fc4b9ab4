"""Points 35 and 36: how large kinds are, and the most guests that meet."""

import unittest
from itertools import product
from math import comb
from random import Random

from case import FAR, Case
from oracle import (OTHERS, RINGS, SMALL_NETS, TREES, book_of, great_net, great_tree, homeward_end, kinds_of, moves,
                    place_of, small_kinds, some_place, some_row, some_tree, standing_of)
from twinrope.arrows import dead_ropes
from twinrope.errors import BadStanding, NoStation, NotATree, TooMany
from twinrope.homeward import homeward_row, homeward_standing
from twinrope.nets import Net
from twinrope.rides import end_of
from twinrope.sizes import busiest, gather_row, kind_size, members, most_at, size_by_cars
from twinrope.standings import Standing, standing_count

TOTALS = [(0, 0), (1, 0), (1, 1), (2, 1), (2, 2)]
# A circle of ropes that no guest reaches hangs on a row; the red guest cannot leave its station.
FAR_CIRCLE = Net(5, [(0, 1), (1, 2), (2, 3), (3, 4), (4, 2)])


def by_lists(net, place):
    """The size of the kind by point 35, list by list, without looking at dead stations."""
    books = [book_of(net, place, station) for station in range(net.stations)]
    total = 0
    for cars in product((0, 1), repeat=len(net.ropes)):
        excess = list(books)
        for ends, car in zip(net.ropes, cars):
            excess[ends[car]] += 1
        spare = sum(place[0]) - sum(more for more in excess if more > 0)
        total += comb(spare + net.stations - 1, spare) if spare >= 0 else 0
    return total


class Sizes(Case):

    def test_kinds_of_small_nets(self):
        for net, kind in small_kinds(SMALL_NETS + [FAR_CIRCLE], TOTALS):
            here = standing_of(net, kind[len(kind) // 2])
            self.assertEqual(kind_size(here), len(kind))
            self.assertEqual([place_of(there) for there in members(here)], kind)
            for cars in product((0, 1), repeat=len(net.ropes)):
                many = sum(1 for place in kind if place[2] == cars)
                self.assertEqual(size_by_cars(here, list(cars)), many)

    def test_a_circle_that_no_guest_reaches(self):
        net = FAR_CIRCLE
        here = Standing(net, [1, 0, 0, 0, 0], [0] * 5, [1, 1, 0, 0, 0])
        self.assertEqual(dead_ropes(here), [1, 2, 3, 4])
        self.assertEqual(kind_size(here), 1)
        self.assertEqual(size_by_cars(here, [1, 1, 0, 0, 0]), 1)
        self.assertEqual(size_by_cars(here, [1, 1, 1, 1, 1]), 0)
        self.assertEqual(by_lists(net, place_of(here)), 2)

    def test_sizes_have_the_sum_of_all_standings(self):
        for net in SMALL_NETS:
            for reds, blues in TOTALS[:4]:
                if standing_count(net, reds, blues) <= 1300:
                    kinds = kinds_of(net, reds, blues)
                    sizes = [kind_size(standing_of(net, kind[0])) for kind in kinds]
                    self.assertEqual(sum(sizes), standing_count(net, reds, blues))

    def test_trees_of_some_size(self):
        rng = Random(17)
        for stations in (6, 9):
            for net in (Net.row(stations), Net.star(stations), some_tree(stations, rng), some_tree(stations, rng)):
                place = some_place(net, 8, 7, rng)
                here = standing_of(net, place)
                self.assertEqual(kind_size(here), by_lists(net, place))
                total = sum(size_by_cars(here, list(cars)) for cars in product((0, 1), repeat=stations - 1))
                self.assertEqual(total, kind_size(here))

    def test_great_trees(self):
        rng = Random(18)
        for net in (Net.row(24), Net.star(24), great_tree(), some_tree(24, rng)):
            for totals in ((15, 15), (30, 0), (1, 2), (0, 0)):
                _, places = some_row(net, some_place(net, *totals, rng), 60, rng)
                first, second = standing_of(net, places[0]), standing_of(net, places[-1])
                size = kind_size(first)
                self.assertEqual(kind_size(second), size)
                self.assertGreaterEqual(size, size_by_cars(first, list(second.cars)))
                self.assertGreaterEqual(size_by_cars(first, list(second.cars)), 1)
                self.assertEqual(kind_size(homeward_standing(first, 11)), size)

    def test_the_kind_of_a_lone_row(self):
        # One red guest in a row with all arrows ahead of it can only go to and fro.
        net = Net.row(24)
        here = Standing(net, [1] + [0] * 23, [0] * 24, [0] * 23)
        self.assertEqual(kind_size(here), 24)
        self.assertEqual(kind_size(Standing(net, [0] * 24, [0] * 24, [0] * 23)), 1)
        self.assertEqual(kind_size(Standing(Net(1, []), [9], [9], [])), 1)

    def test_size_by_cars_of_great_nets(self):
        rng = Random(19)
        for net in (great_net(), great_tree()):
            _, places = some_row(net, some_place(net, 15, 15, rng), 300, rng)
            here = standing_of(net, places[0])
            for place in places[::50]:
                excess = [red - blue for red, blue in zip(place[0], place[1])]
                spare = 15 - sum(more for more in excess if more > 0)
                self.assertEqual(size_by_cars(here, list(place[2])), comb(spare + 23, 23))

    def test_fourteen_ropes_and_more(self):
        ring, many = Net.ring(14), Net.ring(15)
        here = Standing(ring, [1] + [0] * 13, [0] * 14, [0] * 14)
        self.assertEqual(kind_size(here), by_lists(ring, place_of(here)))
        self.assertEqual(len(list(members(here))), kind_size(here))
        for net in (many, great_net(), Net(2, [(0, 1)] * 15)):
            there = Standing.gathered(net, 1, 0)
            self.fails(lambda: kind_size(there), TooMany, 14)
            self.fails(lambda: next(members(there)), TooMany, 14)
        self.fails(lambda: next(members(Standing.gathered(Net.row(16), 0, 0))), TooMany, 14)
        self.assertEqual(kind_size(Standing.gathered(Net.row(16), 0, 0)), 1)
        self.assertEqual(len(list(members(Standing.gathered(Net.row(15), 0, 0)))), 1)

    def test_the_greatest_kinds_that_are_listed(self):
        net = Net(6, [(0, 3), (2, 1), (3, 2), (5, 2), (4, 3), (3, 2), (3, 0), (0, 5)])
        here = Standing(net, [0, 2, 1, 1, 2, 0], [1, 1, 4, 1, 3, 3], [1, 0, 1, 1, 0, 1, 1, 0])
        self.assertEqual((kind_size(here), by_lists(net, place_of(here))), (20000, 20000))
        keys = [there.key() for there in members(here)]
        self.assertEqual((len(keys), keys), (20000, sorted(set(keys))))
        self.assertIn(here.key(), keys)
        net = Net(6, [(5, 0), (3, 4), (3, 1), (2, 5), (0, 3)])
        here = Standing(net, [1, 2, 0, 3, 3, 2], [4, 1, 1, 1, 1, 3], [1, 1, 0, 1, 1])
        self.assertEqual((kind_size(here), by_lists(net, place_of(here))), (20064, 20064))
        self.fails(lambda: next(members(here)), TooMany, 20000)

    def test_members_begin_anew(self):
        here = standing_of(TREES[5], some_place(TREES[5], 2, 2, Random(21)))
        self.assertEqual(list(members(here)), list(members(here)))
        late = members(Standing.gathered(great_net(), 1, 1))
        self.fails(lambda: next(late), TooMany, 14)

    def test_bad_cars(self):
        here = Standing.gathered(Net.row(4), 1, 1)
        for cars, place in (([], -1), ([0, 0], -1), ([0, 0, 0, 0], -1), ([2, -1, 0], 0), ([0, -1, 2], 1),
                            ([0, 1, FAR], 2)):
            self.fails(lambda: size_by_cars(here, cars), BadStanding, "cars", place)
        cars = [0, 1, 1]
        size_by_cars(here, cars)
        self.assertEqual(cars, [0, 1, 1])


class Meeting(Case):

    def test_most_at_small_trees(self):
        for net, kind in small_kinds(TREES, TOTALS + [(3, 1), (0, 3)], 700):
            here = standing_of(net, kind[-1])
            most = [(max(place[0][s] for place in kind), max(place[1][s] for place in kind))
                    for s in range(net.stations)]
            self.assertEqual([most_at(here, station) for station in range(net.stations)], most)
            least = [min(pair) for pair in most]
            self.assertEqual(busiest(here), least.index(max(least)))

    def test_gather_row(self):
        for net, kind in small_kinds(TREES, TOTALS, 500):
            for place in kind[::1 + len(kind) // 3]:
                here = standing_of(net, place)
                for station in range(net.stations):
                    row = gather_row(here, station)
                    self.assertEqual(row, homeward_row(here, station))
                    there = end_of(here, *row)
                    self.assertEqual((there.reds[station], there.blues[station]), most_at(here, station))

    def test_great_trees(self):
        rng = Random(22)
        for net in (Net.row(24), Net.star(24), great_tree(), some_tree(24, rng)):
            place = some_place(net, 15, 15, rng)
            here = standing_of(net, place)
            pairs = []
            for station in range(24):
                end = homeward_end_of_row(net, here, station)
                pairs.append((end.reds[station], end.blues[station]))
                self.assertEqual(most_at(here, station), pairs[-1])
            least = [min(pair) for pair in pairs]
            self.assertEqual(busiest(here), least.index(max(least)))

    def test_ties(self):
        net = Net.row(3)
        self.assertEqual(busiest(Standing(net, [0, 0, 0], [0, 0, 0], [0, 0])), 0)
        here = Standing(net, [0, 0, 2], [0, 0, 2], [1, 1])
        self.assertEqual([most_at(here, station) for station in range(3)], [(2, 2)] * 3)
        self.assertEqual(busiest(here), 0)
        there = Standing(net, [2, 0, 0], [0, 0, 2], [1, 1])
        self.assertEqual([most_at(there, station) for station in range(3)], [(2, 0), (0, 0), (0, 2)])
        self.assertEqual(busiest(there), 0)
        self.assertEqual(homeward_end(net, place_of(there), 1)[1], 0)

    def test_errors(self):
        for net in RINGS + OTHERS + [great_net()]:
            here = Standing.gathered(net, 1, 1)
            for station in (0, -1, FAR):
                self.fails(lambda: most_at(here, station), NotATree)
                self.fails(lambda: gather_row(here, station), NotATree)
            self.fails(lambda: busiest(here), NotATree)
        for net in (Net(1, []), Net.row(4), great_tree()):
            here = Standing.gathered(net, 1, 1)
            for station in (-1, net.stations, FAR, -FAR):
                self.fails(lambda: most_at(here, station), NoStation, station)
                self.fails(lambda: gather_row(here, station), NoStation, station)


def homeward_end_of_row(net, here, station):
    """The last standing of the homeward row, walked by the moves of the oracle."""
    place = place_of(here)
    for ride in gather_row(here, station):
        place = dict(moves(net, place))[ride]
    return standing_of(net, place)


if __name__ == "__main__":
    unittest.main()
