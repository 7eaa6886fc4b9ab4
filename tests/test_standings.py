"""Points 9 and 10: standings, and all standings."""

import unittest
from itertools import islice
from math import comb

from case import FAR, Case
from oracle import SMALL_NETS, great_net, place_of, places_with
from twinrope.errors import BadCount, BadStanding, NoRope, NoStation, TooMany
from twinrope.nets import Net
from twinrope.standings import Standing, every_standing, standing_count

ROW = Net.row(3)


class StandingErrors(Case):

    def test_guests_of_a_wrong_length(self):
        for wrong in ([], [0, 0], [0, 0, 0, 0]):
            self.fails(lambda: Standing(ROW, wrong, [0, 0, 0], [0, 0]), BadStanding, "reds", -1)
            self.fails(lambda: Standing(ROW, [0, 0, 0], wrong, [0, 0]), BadStanding, "blues", -1)

    def test_negative_guests(self):
        for at in range(3):
            wrong = [4, 4, 4]
            wrong[at] = -1
            self.fails(lambda: Standing(ROW, wrong, [0, 0, 0], [0, 0]), BadStanding, "reds", at)
            self.fails(lambda: Standing(ROW, [0, 0, 0], wrong, [0, 0]), BadStanding, "blues", at)
        self.fails(lambda: Standing(ROW, [0, -1, -FAR], [0, 0, 0], [0, 0]), BadStanding, "reds", 1)

    def test_thirty_guests_and_one_more(self):
        self.assertEqual(Standing(ROW, [30, 0, 0], [0, 0, 0], [0, 0]).red_total, 30)
        self.assertEqual(Standing(ROW, [5, 5, 5], [5, 5, 5], [0, 0]).blue_total, 15)
        self.assertEqual(Standing.MOST_GUESTS, 30)
        for reds, blues in ([31, 0, 0], [0, 0, 0]), ([5, 5, 6], [5, 5, 5]), ([0, 0, 0], [0, 0, FAR]):
            self.fails(lambda: Standing(ROW, reds, blues, [0, 0]), TooMany, 30)

    def test_cars(self):
        for wrong in ([], [0], [0, 0, 0]):
            self.fails(lambda: Standing(ROW, [0] * 3, [0] * 3, wrong), BadStanding, "cars", -1)
        for item in (-1, 2, FAR, -FAR):
            for at in range(2):
                wrong = [1, 0]
                wrong[at] = item
                self.fails(lambda: Standing(ROW, [0] * 3, [0] * 3, wrong), BadStanding, "cars", at)
        self.fails(lambda: Standing(ROW, [0] * 3, [0] * 3, [7, -7]), BadStanding, "cars", 0)

    def test_the_first_fault_decides(self):
        self.fails(lambda: Standing(ROW, [-1, 0], [0], [5]), BadStanding, "reds", -1)
        self.fails(lambda: Standing(ROW, [40, 0, -1], [0], [5]), BadStanding, "reds", 2)
        self.fails(lambda: Standing(ROW, [40, 0, 0], [0, -1], [5]), BadStanding, "blues", -1)
        self.fails(lambda: Standing(ROW, [40, 0, 0], [0, -1, 0], [5]), BadStanding, "blues", 1)
        self.fails(lambda: Standing(ROW, [40, 0, 0], [0, 0, 0], [5]), TooMany, 30)
        self.fails(lambda: Standing(ROW, [30, 0, 0], [0, 0, 0], [5]), BadStanding, "cars", -1)
        self.fails(lambda: Standing(ROW, [30, 0, 0], [0, 0, 0], [0, 5]), BadStanding, "cars", 1)


class StandingValues(Case):

    def test_attributes(self):
        here = Standing(ROW, [1, 0, 2], [0, 3, 0], [0, 1])
        self.assertEqual(here.net, ROW)
        self.assertEqual((here.reds, here.blues, here.cars), ((1, 0, 2), (0, 3, 0), (0, 1)))
        for part in (here.reds, here.blues, here.cars):
            self.assertIsInstance(part, tuple)
        self.assertEqual((here.red_total, here.blue_total), (3, 3))

    def test_key(self):
        here = Standing(ROW, [1, 0, 2], [0, 3, 0], [0, 1])
        self.assertEqual(here.key(), (1, 0, 2, 0, 3, 0, 0, 1))
        self.assertIsInstance(here.key(), tuple)
        self.assertEqual(Standing(Net(1, []), [4], [5], []).key(), (4, 5))

    def test_equality(self):
        def made(net=ROW, reds=(1, 0, 0), blues=(0, 0, 1), cars=(0, 1)):
            return Standing(net, list(reds), list(blues), list(cars))
        self.assertTrue(made() == made())
        self.assertFalse(made() != made())
        others = [
            made(net=Net(3, [(0, 1), (2, 1)])), made(net=Net(3, [(1, 2), (0, 1)])), made(reds=(0, 1, 0)),
            made(reds=(1, 1, 0)), made(blues=(0, 1, 0)), made(blues=(0, 0, 2)), made(cars=(1, 1)), made(cars=(0, 0)),
        ]
        for other in others:
            self.assertFalse(made() == other)
            self.assertTrue(made() != other)

    def test_equal_keys_of_unlike_nets(self):
        one = Standing(Net(1, []), [1], [0], [])
        self.assertFalse(one == Standing(Net(2, [(0, 1)]), [1, 0], [0, 0], [0]))
        small = Standing(Net(2, [(0, 1), (0, 1), (0, 1), (0, 1)]), [1, 0], [0, 0], [0, 0, 0, 0])
        self.assertFalse(small == Standing(Net.row(3), [1, 0, 0], [0, 0, 0], [0, 0]))

    def test_cars(self):
        net = Net(3, [(0, 1), (0, 1), (2, 1)])
        here = Standing(net, [0] * 3, [0] * 3, [0, 1, 1])
        self.assertEqual([here.red_car(rope) for rope in range(3)], [0, 1, 1])
        self.assertEqual([here.blue_car(rope) for rope in range(3)], [1, 0, 2])
        self.assertEqual([here.red_cars_at(station) for station in range(3)], [1, 2, 0])
        for rope in (-1, 3, FAR, -FAR):
            self.fails(lambda: here.red_car(rope), NoRope, rope)
            self.fails(lambda: here.blue_car(rope), NoRope, rope)
        for station in (-1, 3, FAR, -FAR):
            self.fails(lambda: here.red_cars_at(station), NoStation, station)

    def test_cars_of_many_standings(self):
        for net in SMALL_NETS:
            for here in every_standing(net, 0, 0):
                for rope, (start, end) in enumerate(net.ropes):
                    expected = (end, start) if here.cars[rope] else (start, end)
                    self.assertEqual((here.red_car(rope), here.blue_car(rope)), expected)
                cars = [here.red_cars_at(station) for station in range(net.stations)]
                self.assertEqual(sum(cars), len(net.ropes))

    def test_exchange(self):
        here = Standing(ROW, [1, 0, 2], [0, 3, 0], [0, 1])
        other = ~here
        self.assertEqual(place_of(other), ((0, 3, 0), (1, 0, 2), (1, 0)))
        self.assertEqual(other.net, ROW)
        self.assertEqual(~other, here)
        self.assertEqual(place_of(here), ((1, 0, 2), (0, 3, 0), (0, 1)))

    def test_gathered(self):
        here = Standing.gathered(ROW, 4, 5)
        self.assertEqual(place_of(here), ((4, 0, 0), (5, 0, 0), (0, 0)))
        self.assertEqual(place_of(Standing.gathered(Net(1, []), 0, 30)), ((0,), (30,), ()))
        self.assertEqual(Standing.gathered(great_net(), 15, 15).cars, (0,) * 40)


class Totals(Case):

    def calls(self, reds, blues):
        return [
            lambda: Standing.gathered(ROW, reds, blues),
            lambda: standing_count(ROW, reds, blues),
            lambda: next(every_standing(ROW, reds, blues)),
        ]

    def test_wrong_totals(self):
        for call in self.calls(-1, 0) + self.calls(-1, 31) + self.calls(-1, -2):
            self.fails(call, BadCount, -1)
        for call in self.calls(0, -2) + self.calls(31, -2) + self.calls(FAR, -2):
            self.fails(call, BadCount, -2)
        for call in self.calls(-FAR, FAR):
            self.fails(call, BadCount, -FAR)
        for reds, blues in ((31, 0), (0, 31), (15, 16), (FAR, 0), (0, FAR)):
            for call in self.calls(reds, blues):
                self.fails(call, TooMany, 30)

    def test_thirty(self):
        self.assertEqual(Standing.gathered(ROW, 30, 0).red_total, 30)
        self.assertEqual(standing_count(ROW, 10, 20), 4 * comb(12, 2) * comb(22, 2))


class AllStandings(Case):

    def test_against_another_listing(self):
        for net in SMALL_NETS:
            for reds, blues in ((0, 0), (1, 0), (0, 1), (2, 1), (1, 2), (0, 3)):
                expected = places_with(net, reds, blues)
                if len(expected) > 3000:
                    continue
                found = list(every_standing(net, reds, blues))
                self.assertEqual([place_of(here) for here in found], expected)
                self.assertTrue(all(isinstance(here, Standing) and here.net == net for here in found))
                keys = [here.key() for here in found]
                self.assertEqual(keys, sorted(keys))
                self.assertEqual(standing_count(net, reds, blues), len(expected))

    def test_nearly_twenty_thousand(self):
        net = Net(3, [(0, 1), (1, 2), (0, 2), (0, 1), (0, 1), (1, 2), (1, 2), (0, 2)])
        self.assertEqual(standing_count(net, 0, 11), 19968)
        keys = [here.key() for here in every_standing(net, 0, 11)]
        self.assertEqual(len(keys), 19968)
        self.assertEqual(keys, sorted(keys))
        self.assertTrue(all(one != two for one, two in zip(keys, keys[1:])))

    def test_more_than_twenty_thousand(self):
        self.assertEqual(standing_count(ROW, 9, 12), 20020)
        self.fails(lambda: next(every_standing(ROW, 9, 12)), TooMany, 20000)
        self.fails(lambda: next(every_standing(great_net(), 15, 15)), TooMany, 20000)

    def test_the_greatest_count(self):
        self.assertEqual(standing_count(great_net(), 15, 15), 2 ** 40 * comb(38, 23) ** 2)
        self.assertEqual(standing_count(great_net(), 30, 0), 2 ** 40 * comb(53, 23))
        self.assertEqual(standing_count(great_net(), 7, 23), 2 ** 40 * comb(30, 23) * comb(46, 23))
        self.assertEqual(standing_count(Net(1, []), 15, 15), 1)

    def test_a_generator_waits_with_its_errors(self):
        waiting = [every_standing(ROW, -1, 0), every_standing(ROW, 31, 0), every_standing(ROW, 15, 15)]
        self.fails(lambda: next(waiting[0]), BadCount, -1)
        self.fails(lambda: next(waiting[1]), TooMany, 30)
        self.fails(lambda: next(waiting[2]), TooMany, 20000)

    def test_a_generator_gives_one_after_another(self):
        found = every_standing(ROW, 1, 1)
        first = next(found)
        self.assertEqual(first.key(), (0, 0, 1, 0, 0, 1, 0, 0))
        self.assertEqual([here.key() for here in islice(found, 2)], [
            (0, 0, 1, 0, 0, 1, 0, 1), (0, 0, 1, 0, 0, 1, 1, 0)])


if __name__ == "__main__":
    unittest.main()
