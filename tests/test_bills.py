"""Points 44 and 45: bills."""

import unittest
from itertools import product
from random import Random

from case import FAR, Case
from oracle import (CIRCLES, OTHERS, RINGS, SMALL_NETS, TREES, book_of, great_net, great_tree, place_of, places_with,
                    row_counts, some_place, some_row, standing_of)
from twinrope.bills import Bill, bill_of
from twinrope.errors import BadBill, BadFare, BrokenRow, NoColour, NoRope, OtherNet
from twinrope.kinship import are_alike
from twinrope.nets import Net
from twinrope.rides import end_of
from twinrope.standings import Standing

NET = Net(3, [(0, 1), (2, 1), (0, 1)])


def leads_by_stations(net, reds, blues, one, two):
    """Whether the crossings lead from one place to the other, station by station and rope by rope."""
    for station in range(net.stations):
        for crossings, before, after in ((reds, one[0], two[0]), (blues, one[1], two[1])):
            away = sum(many for (start, _), many in zip(net.ropes, crossings) if start == station)
            back = sum(many for (_, end), many in zip(net.ropes, crossings) if end == station)
            if away - back != before[station] - after[station]:
                return False
    return all(x - y == new - old for x, y, old, new in zip(reds, blues, one[2], two[2]))


class BillAsValue(Case):

    def test_attributes(self):
        reds, blues = [1, -2, FAR], [0, 5, -FAR]
        bill = Bill(NET, reds, blues)
        reds[0] = 9
        blues.append(1)
        self.assertEqual((bill.net, bill.reds, bill.blues), (NET, (1, -2, FAR), (0, 5, -FAR)))
        self.assertEqual((Bill(Net(1, []), [], []).reds, Bill(Net(1, []), [], []).blues), ((), ()))

    def test_equality(self):
        one = Bill(NET, [1, 2, 3], [4, 5, 6])
        self.assertTrue(one == Bill(Net(3, list(NET.ropes)), [1, 2, 3], [4, 5, 6]))
        for other in (Bill(NET, [1, 2, 4], [4, 5, 6]), Bill(NET, [1, 2, 3], [4, 5, 7]), Bill(NET, [4, 5, 6], [1, 2, 3]),
                      Bill(Net(3, [(0, 1), (1, 2), (0, 1)]), [1, 2, 3], [4, 5, 6]), ((1, 2, 3), (4, 5, 6)), NET, None,
                      0, "x", [NET, (1, 2, 3), (4, 5, 6)]):
            self.assertIs(one == other, False)
            self.assertIs(one != other, True)
            self.assertIs(other == one, False)

    def test_sums(self):
        one, two = Bill(NET, [1, -2, FAR], [0, 5, -1]), Bill(NET, [3, 3, 3], [-4, FAR, 0])
        self.assertEqual(one + two, Bill(NET, [4, 1, FAR + 3], [-4, FAR + 5, -1]))
        self.assertEqual(one - two, Bill(NET, [-2, -5, FAR - 3], [4, 5 - FAR, -1]))
        self.assertEqual(-one, Bill(NET, [-1, 2, -FAR], [0, -5, 1]))
        self.assertEqual((one - one, one + -two, -(-one)), (Bill(NET, [0] * 3, [0] * 3), one - two, one))
        self.assertEqual((one.reds, one.blues), ((1, -2, FAR), (0, 5, -1)))

    def test_other_nets(self):
        one = Bill(NET, [0] * 3, [0] * 3)
        for net in (Net.star(4), Net(3, [(0, 1), (1, 2), (0, 1)]), Net.row(3), Net(1, [])):
            many = len(net.ropes)
            other = Bill(net, [0] * many, [0] * many)
            for first, second in ((one, other), (other, one)):
                self.fails(lambda: first + second, OtherNet)
                self.fails(lambda: first - second, OtherNet)

    def test_cost(self):
        bill = Bill(NET, [1, -2, 0], [0, 5, -3])
        self.assertEqual((bill.cost(), bill.cost(prices=None), bill.cost(prices=[1, 1, 1])), (11, 11, 11))
        self.assertEqual(bill.cost(prices=[FAR, 10, 1]), FAR + 73)
        self.assertEqual(Bill(Net(1, []), [], []).cost(prices=[]), 0)
        self.assertEqual(Bill(NET, [0] * 3, [0] * 3).cost(prices=[5, 6, 7]), 0)
        self.assertEqual(Bill(great_net(), [FAR] * 40, [-FAR] * 40).cost(prices=[10 ** 18 - 1] * 40),
                         80 * FAR * (10 ** 18 - 1))

    def test_bad_fares(self):
        bill = Bill(NET, [1, -2, 0], [0, 5, -3])
        for prices, place in (([], -1), ([1, 1], -1), ([0, 0], -1), ([1, 1, 1, 1], -1), ([0, 1, 0], 0), ([1, 0, -1], 1),
                              ([1, 1, -FAR], 2)):
            kept = list(prices)
            self.fails(lambda: bill.cost(prices=prices), BadFare, place)
            self.assertEqual(prices, kept)
        self.fails(lambda: Bill(Net(1, []), [], []).cost(prices=[1]), BadFare, -1)

    def test_bad_bills(self):
        for reds, blues, colour in (([], [], "red"), ([1, 2], [1, 2, 3], "red"), ([1, 2, 3, 4], [1], "red"),
                                    ([1, 2, 3], [], "blue"), ([1, 2, 3], [1, 2], "blue"),
                                    ([1, 2, 3], [1, 2, 3, 4], "blue")):
            self.fails(lambda: Bill(NET, reds, blues), BadBill, colour)


class Leads(Case):

    def test_all_bills_of_small_nets(self):
        rng = Random(36)
        for net in (Net(1, []), Net.row(2), Net(2, [(1, 0), (0, 1)]), Net.row(3), Net(3, [(2, 0), (1, 2)])):
            span = list(product(range(-2, 3), repeat=len(net.ropes)))
            for totals in ((1, 0), (1, 1), (2, 1)):
                places = places_with(net, *totals)
                for _ in range(12):
                    one, two = rng.choice(places), rng.choice(places)
                    first, second = standing_of(net, one), standing_of(net, two)
                    found = 0
                    for reds, blues in product(span, span):
                        leads = Bill(net, list(reds), list(blues)).leads(first, second)
                        self.assertIs(leads, leads_by_stations(net, reds, blues, one, two))
                        found += leads
                    books = [[book_of(net, place, s) for s in range(net.stations)] for place in (one, two)]
                    self.assertEqual(found > 0, books[0] == books[1])

    def test_a_rope_that_only_the_cars_part(self):
        net = CIRCLES[0]
        first = Standing(net, [0] * 4, [0] * 4, [0, 0, 0, 0])
        second = Standing(net, [0] * 4, [0] * 4, [0, 0, 1, 1])
        self.assertFalse(are_alike(first, second))
        self.assertTrue(Bill(net, [0, 0, 1, 1], [0] * 4).leads(first, second))
        self.assertFalse(Bill(net, [0, 0, 1, 0], [0, 0, 0, 1]).leads(first, second))

    def test_unlike_totals(self):
        net = Net.row(2)
        first, second = Standing(net, [1, 0], [0, 0], [0]), Standing(net, [2, 0], [1, 0], [0])
        for pair in product(range(-2, 3), repeat=2):
            self.assertIs(Bill(net, [pair[0]], [pair[1]]).leads(first, second), False)

    def test_other_nets_raise_nothing(self):
        here = Standing.gathered(NET, 1, 1)
        zero = Bill(NET, [0] * 3, [0] * 3)
        self.assertIs(zero.leads(here, here), True)
        for net in (Net(3, [(0, 1), (1, 2), (0, 1)]), Net.ring(3), Net.row(2), great_net()):
            other = Standing.gathered(net, 1, 1)
            for first, second in ((here, other), (other, here), (other, other)):
                self.assertIs(zero.leads(first, second), False)


class BillOfARow(Case):

    def test_rows(self):
        rng = Random(37)
        for net in SMALL_NETS + CIRCLES + [great_net(), great_tree(), Net.ring(24)]:
            for totals in ((1, 0), (2, 3), (15, 15)):
                rides, places = some_row(net, some_place(net, *totals, rng), 60, rng)
                here = standing_of(net, places[0])
                reds, blues, end = row_counts(net, places[0], rides)
                bill = bill_of(here, rides)
                self.assertEqual((end, bill), (places[-1], Bill(net, reds, blues)))
                self.assertTrue(bill.leads(here, standing_of(net, end)))
                self.assertTrue((-bill).leads(standing_of(net, end), here))
                self.assertLessEqual(bill.cost(), len(rides))
                self.assertEqual((len(rides) - bill.cost()) % 2, 0)
                half = len(rides) // 2
                there = end_of(here, *rides[:half])
                self.assertEqual(bill_of(here, rides[:half]) + bill_of(there, rides[half:]), bill)

    def test_turned_ropes(self):
        here = Standing(NET, [1, 0, 0], [1, 0, 0], [0, 0, 1])
        self.assertEqual(bill_of(here, []), Bill(NET, [0] * 3, [0] * 3))
        self.assertEqual(bill_of(here, [(0, "red"), (2, "blue")]), Bill(NET, [1, 0, 0], [0, 0, 1]))
        there = Standing(NET, [0, 1, 0], [0, 0, 1], [0, 1, 0])
        self.assertEqual(bill_of(there, [(1, "red")]), Bill(NET, [0, -1, 0], [0] * 3))
        back = Standing(NET, [0, 1, 0], [0, 1, 0], [1, 0, 0])
        self.assertEqual(bill_of(back, [(0, "red"), (2, "blue")]), Bill(NET, [-1, 0, 0], [0, 0, -1]))

    def test_a_long_row(self):
        here = Standing(Net.row(2), [1, 0], [0, 0], [0])
        self.assertEqual(bill_of(here, [(0, "red")] * 4999), Bill(Net.row(2), [1], [0]))

    def test_errors(self):
        for net in TREES[3:] + RINGS + OTHERS:
            here = Standing.gathered(net, 1, 0)
            for rope in (-1, len(net.ropes), FAR):
                self.fails(lambda: bill_of(here, [(0, "red"), (rope, "green")]), NoRope, rope)
            self.fails(lambda: bill_of(here, [(0, "green"), (FAR, "red")]), NoColour, "green")
            self.fails(lambda: bill_of(here, [(0, "blue"), (0, "red")]), BrokenRow, 0, 0, "blue")
        here = Standing(Net.row(3), [1, 0, 0], [0, 0, 0], [0, 0])
        rides = [(0, "red"), (1, "red"), (0, "red")]
        self.fails(lambda: bill_of(here, rides), BrokenRow, 2, 0, "red")
        self.assertEqual(rides, [(0, "red"), (1, "red"), (0, "red")])
        self.assertEqual(place_of(here)[0], (1, 0, 0))


if __name__ == "__main__":
    unittest.main()
