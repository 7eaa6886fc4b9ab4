"""Points 46 and 47: the floor number, and levels that certify it."""

import unittest
from heapq import heappop, heappush
from itertools import product
from random import Random

from case import FAR, Case
from oracle import (CIRCLES, OTHERS, RINGS, SMALL_NETS, TREES, great_net, great_tree, moves, place_of, small_kinds,
                    some_place, some_row, standing_of, steps_from)
from test_bills import leads_by_stations
from twinrope.bills import Bill, bill_of
from twinrope.errors import Apart, BadFare, OtherNet
from twinrope.floors import floor_number, floor_paper, paper_holds
from twinrope.nets import Net
from twinrope.standings import Standing

GREAT = [great_net(), great_tree(), Net.ring(24), Net.row(24), Net(2, [(0, 1), (1, 0)] * 20)]


def dearest(prices, reds, blues):
    return sum(price * (abs(x) + abs(y)) for price, x, y in zip(prices, reds, blues))


def least_of_all_bills(net, one, two, prices, most):
    """The least cost of a bill whose red crossings are at most so many."""
    turns = [after - before for before, after in zip(one[2], two[2])]
    best = None
    for reds in product(range(-most, most + 1), repeat=len(net.ropes)):
        blues = [x - turn for x, turn in zip(reds, turns)]
        if leads_by_stations(net, reds, blues, one, two):
            cost = dearest(prices, reds, blues)
            best = cost if best is None else min(best, cost)
    return best


def cheapest(net, one, prices):
    """The least price of a row from the place to each place of its kind."""
    best, queue = {}, [(0, one)]
    while queue:
        cost, here = heappop(queue)
        if here not in best:
            best[here] = cost
            for (rope, _), after in moves(net, here):
                heappush(queue, (cost + prices[rope], after))
    return best


def levels_fit(net, reds, blues, levels, prices):
    """Point 47, word by word."""
    if len(levels) != net.stations:
        return False
    for (start, end), x, y, p in zip(net.ropes, reds, blues, prices):
        up = p * (abs(x + 1) - abs(x) + abs(y + 1) - abs(y))
        down = p * (abs(x - 1) - abs(x) + abs(y - 1) - abs(y))
        if levels[end] - levels[start] > up or levels[start] - levels[end] > down:
            return False
    return True


class Floors(Case):

    def test_against_all_bills(self):
        rng = Random(38)
        for net, kind in small_kinds(TREES[1:] + RINGS[:4] + OTHERS[:2] + CIRCLES[:1], [(1, 0), (1, 1), (2, 1)], 300):
            prices = [rng.choice((1, 2, 3, 40)) for _ in net.ropes]
            for _ in range(2):
                one, two = rng.choice(kind), rng.choice(kind)
                first, second = standing_of(net, one), standing_of(net, two)
                ones = [1] * len(net.ropes)
                self.assertEqual(floor_number(first, second), least_of_all_bills(net, one, two, ones, 3))
                self.assertEqual(floor_number(first, second, prices=prices),
                                 least_of_all_bills(net, one, two, prices, 3))

    def test_nets_with_circles(self):
        rng = Random(39)
        for net in OTHERS + CIRCLES:
            for _ in range(3):
                _, places = some_row(net, some_place(net, 2, 1, rng), 30, rng)
                first, second = standing_of(net, places[0]), standing_of(net, places[-1])
                prices = [rng.choice((1, 7)) for _ in net.ropes]
                for each in (prices, [1] * len(net.ropes)):
                    self.assertEqual(floor_number(first, second, prices=each),
                                     least_of_all_bills(net, places[0], places[-1], each, 3))

    def test_rows_that_pay_just_so_much(self):
        rng = Random(40)
        for net, kind in small_kinds(SMALL_NETS + CIRCLES, [(0, 0), (1, 0), (1, 1), (2, 1)], 700):
            exact = net in TREES + RINGS
            prices = [rng.choice((1, 3, 10)) for _ in net.ropes]
            for one in kind[:1]:
                far, paid = steps_from(net, one), cheapest(net, one, prices)
                for two in kind[::1 + len(kind) // 12]:
                    first, second = standing_of(net, one), standing_of(net, two)
                    number = floor_number(first, second)
                    dear = floor_number(first, second, prices=prices)
                    self.assertEqual(floor_number(first, second, prices=None), number)
                    if exact:
                        self.assertEqual((number, dear), (far[two], paid[two]))
                    else:
                        self.assertLessEqual(number, far[two])
                        self.assertLessEqual(dear, paid[two])
                        self.assertEqual((number - far[two]) % 2, 0)

    def test_a_circle_without_guests_costs_more(self):
        net = CIRCLES[0]
        first = Standing(net, [1, 0, 0, 0], [0] * 4, [0, 0, 0, 0])
        second = Standing(net, [1, 0, 0, 0], [0] * 4, [0, 0, 1, 1])
        self.assertEqual(floor_number(first, second), 2)
        self.assertEqual(steps_from(net, place_of(first))[place_of(second)], 6)

    def test_the_paper_holds(self):
        rng = Random(41)
        for net in SMALL_NETS + CIRCLES + GREAT:
            for totals in ((0, 0), (1, 0), (2, 3), (15, 15)):
                _, places = some_row(net, some_place(net, *totals, rng), 120, rng)
                for prices in (None, [rng.randrange(1, 10 ** 18) for _ in net.ropes]):
                    self.check_paper(net, places[0], places[-1], prices)

    def check_paper(self, net, one, two, prices):
        first, second = standing_of(net, one), standing_of(net, two)
        bill, levels = floor_paper(first, second, prices=prices)
        each = prices or [1] * len(net.ropes)
        self.assertTrue(leads_by_stations(net, bill.reds, bill.blues, one, two))
        self.assertTrue(levels_fit(net, bill.reds, bill.blues, levels, each))
        self.assertIs(paper_holds(first, second, bill, levels, prices=prices), True)
        number = floor_number(first, second, prices=prices)
        self.assertEqual((dearest(each, bill.reds, bill.blues), bill.cost(prices=prices)), (number, number))

    def test_the_longest_ways(self):
        net = Net.row(24)
        first = Standing(net, [15] + [0] * 23, [15] + [0] * 23, [0] * 23)
        second = Standing(net, [0] * 23 + [15], [0] * 23 + [15], [0] * 23)
        self.assertEqual(floor_number(first, second), 690)
        self.assertEqual(floor_number(first, second, prices=[10 ** 18 - 1] * 23), 690 * (10 ** 18 - 1))
        both = Net(24, list(net.ropes) + [(k + 1, k) for k in range(17)])
        one = Standing(both, [15] + [0] * 23, [15] + [0] * 23, [0] * 40)
        two = Standing(both, [0] * 23 + [15], [0] * 23 + [15], [0] * 40)
        prices = [5] * 23 + [2] * 17
        self.assertEqual(floor_number(one, two, prices=prices), 30 * (17 * 2 + 6 * 5))
        self.check_paper(both, place_of(one), place_of(two), prices)


class Papers(Case):

    def test_levels_and_bills_within_a_range(self):
        net = Net(2, [(0, 1), (1, 0)])
        places = [((1, 0), (1, 0), (0, 0)), ((0, 1), (0, 1), (0, 0)), ((0, 1), (1, 0), (1, 0)),
                  ((1, 0), (1, 0), (1, 1))]
        for one, two in product(places, repeat=2):
            first, second = standing_of(net, one), standing_of(net, two)
            for reds in product(range(-2, 3), repeat=2):
                for blues in product(range(-2, 3), repeat=2):
                    leads = leads_by_stations(net, reds, blues, one, two)
                    bill = Bill(net, list(reds), list(blues))
                    for levels in ([0, 0], [0, 2], [2, 0], [5, 3], [0, 4], [-6, 0], [0], [0, 0, 0], []):
                        for prices in (None, [1, 3]):
                            fits = leads and levels_fit(net, reds, blues, levels, prices or [1, 1])
                            self.assertIs(paper_holds(first, second, bill, levels, prices=prices), fits)
                            if fits:
                                self.assertEqual(bill.cost(prices=prices), floor_number(first, second, prices=prices))

    def test_a_dear_bill_has_no_levels(self):
        net = Net.ring(4)
        here = Standing.gathered(net, 2, 2)
        bill, levels = floor_paper(here, here)
        self.assertEqual(bill, Bill(net, [0] * 4, [0] * 4))
        round_once = Bill(net, [1] * 4, [1] * 4)
        self.assertTrue(round_once.leads(here, here))
        for levels in product(range(-4, 5), repeat=4):
            self.assertIs(paper_holds(here, here, round_once, list(levels)), False)

    def test_bills_of_other_rows_do_not_hold(self):
        rng = Random(42)
        for net in RINGS + OTHERS + [great_net()]:
            rides, places = some_row(net, some_place(net, 3, 3, rng), 80, rng)
            first, second = standing_of(net, places[0]), standing_of(net, places[-1])
            bill, levels = floor_paper(first, second)
            self.assertIs(paper_holds(first, second, bill_of(first, rides), levels),
                          bill_of(first, rides).cost() == bill.cost())
            self.assertIs(paper_holds(second, first, bill, levels), first == second)
            self.assertIs(paper_holds(first, second, bill, levels[:-1]), False)
            self.assertIs(paper_holds(first, second, bill, levels + [0]), False)
            self.assertIs(paper_holds(first, second, bill, [level + FAR for level in levels]), True)
            self.assertIs(paper_holds(first, second, bill, [FAR] + levels[1:]), False)
            self.assertIs(paper_holds(first, second, bill, [-FAR] + levels[1:]), False)

    def test_a_bill_of_another_net(self):
        net, other = Net.row(3), Net(3, [(1, 0), (1, 2)])
        here = Standing.gathered(net, 1, 1)
        self.assertIs(paper_holds(here, here, Bill(net, [0, 0], [0, 0]), [0, 0, 0]), True)
        self.assertIs(paper_holds(here, here, Bill(other, [0, 0], [0, 0]), [0, 0, 0]), False)
        self.assertIs(paper_holds(here, here, Bill(Net.row(4), [0] * 3, [0] * 3), [0, 0, 0]), False)

    def test_standings_that_only_a_rope_parts(self):
        net = CIRCLES[0]
        first, second = Standing(net, [0] * 4, [0] * 4, [0] * 4), Standing(net, [0] * 4, [0] * 4, [0, 0, 1, 1])
        bill = Bill(net, [0, 0, 1, 1], [0, 0, 0, 0])
        self.assertIs(paper_holds(first, second, bill, [0, 0, 0, 0]), True)
        self.fails(lambda: floor_paper(first, second), Apart, ("rope", 2))
        self.fails(lambda: floor_number(first, second), Apart, ("rope", 2))


class Errors(Case):

    def entries(self, first, second, prices):
        bill = Bill(first.net, [0] * len(first.net.ropes), [0] * len(first.net.ropes))
        return [lambda: floor_number(first, second, prices=prices), lambda: floor_paper(first, second, prices=prices),
                lambda: paper_holds(first, second, bill, [], prices=prices)]

    def test_other_nets_come_first(self):
        here = Standing.gathered(Net.row(3), 1, 1)
        for net in (Net.row(2), Net.ring(3), great_net(), Net(3, [(1, 0), (1, 2)])):
            for prices in (None, [], [0, 0]):
                for entry in self.entries(here, Standing.gathered(net, 0, 1), prices):
                    self.fails(entry, OtherNet)

    def test_bad_fares_come_before_apart(self):
        here = Standing.gathered(Net.row(3), 1, 1)
        for there in (here, Standing.gathered(Net.row(3), 2, 1)):
            for prices, place in (([], -1), ([1], -1), ([0, 0, 0], -1), ([0, 0], 0), ([1, -FAR], 1)):
                for entry in self.entries(here, there, prices):
                    self.fails(entry, BadFare, place)

    def test_apart(self):
        net = Net(3, [(0, 1), (0, 1), (1, 2)])
        here = Standing(net, [1, 0, 0], [0, 0, 1], [0, 0, 0])
        for there, why in ((Standing(net, [2, 0, 0], [0, 0, 1], [0, 0, 0]), ("reds", 1, 2)),
                           (Standing(net, [0, 1, 0], [0, 0, 1], [0, 0, 0]), ("book", 0, -1, -2)),
                           (Standing(net, [1, 0, 0], [0, 0, 2], [0, 0, 0]), ("book", 2, -1, -2))):
            for prices in (None, [1, 2, 3]):
                for entry in self.entries(here, there, prices)[:2]:
                    self.fails(entry, Apart, why)
            self.assertIs(paper_holds(here, there, Bill(net, [0] * 3, [0] * 3), [0] * 3), False)

    def test_arguments_stay(self):
        net = Net.ring(3)
        here = Standing.gathered(net, 2, 1)
        bill, levels, prices = Bill(net, [0] * 3, [0] * 3), [0, 0, 0], [1, 2, 3]
        paper_holds(here, here, bill, levels, prices=prices)
        floor_paper(here, here, prices=prices)[1].append(7)
        self.assertEqual((levels, prices, bill), ([0, 0, 0], [1, 2, 3], Bill(net, [0] * 3, [0] * 3)))
        self.assertEqual(floor_paper(here, here, prices=prices), floor_paper(here, here, prices=prices))
        self.assertEqual(len(floor_paper(here, here, prices=prices)[1]), 3)


if __name__ == "__main__":
    unittest.main()
