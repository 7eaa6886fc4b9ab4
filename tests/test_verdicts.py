"""Points 49 and 50: verdicts, and the lengths of rows."""

import unittest
from random import Random

from case import FAR, Case
from oracle import (CIRCLES, OTHERS, RINGS, SMALL_NETS, TREES, book_of, great_net, great_tree, moves, place_of,
                    places_with, some_place, some_row, standing_of, steps_from, walked)
from twinrope.errors import BadCount, NotExact, OtherNet
from twinrope.kinship import are_alike, difference_of
from twinrope.least import least_number
from twinrope.marks import Marks, marks_of, still_by
from twinrope.nets import Net
from twinrope.plans import plan_of
from twinrope.rings import ring_number
from twinrope.standings import Standing
from twinrope.verdicts import can_take, verdict_holds, verdict_of

CIRCLE = CIRCLES[1]
HERE = Standing(CIRCLE, [1, 0, 0, 0, 0], [0] * 5, [1, 1, 0, 0, 0])
TURNED = Standing(CIRCLE, [1, 0, 0, 0, 0], [0] * 5, [1, 1, 1, 1, 1])


class Verdicts(Case):

    def test_all_pairs_of_small_nets(self):
        rng = Random(47)
        for net in SMALL_NETS + CIRCLES:
            for totals in ((0, 0), (1, 0), (0, 1), (1, 1), (2, 1)):
                places = places_with(net, *totals)
                for _ in range(6):
                    one, two = rng.choice(places), rng.choice(places)
                    self.check(net, one, two, two in steps_from(net, one))

    def check(self, net, one, two, alike):
        first, second = standing_of(net, one), standing_of(net, two)
        claim = verdict_of(first, second)
        self.assertIs(verdict_holds(first, second, claim), True)
        self.assertEqual(claim[0], "alike" if alike else "apart")
        if alike:
            self.assertEqual(claim, ("alike", plan_of(first, second)))
            self.assertEqual(walked(net, one, claim[1]), two)
        else:
            _, why, marks = claim
            self.assertEqual(why, difference_of(first, second))
            self.assertEqual(marks is None, why[0] != "rope")
            if marks is not None:
                self.assertTrue(still_by(first, marks, why[1]))

    def test_verdicts_of_each_kind(self):
        more = Standing(CIRCLE, [2, 0, 0, 0, 0], [0] * 5, [1, 1, 0, 0, 0])
        moved = Standing(CIRCLE, [0, 1, 0, 0, 0], [0] * 5, [1, 1, 0, 0, 0])
        self.assertEqual(verdict_of(HERE, HERE), ("alike", []))
        self.assertEqual(verdict_of(HERE, more), ("apart", ("reds", 1, 2), None))
        self.assertEqual(verdict_of(HERE, moved), ("apart", ("book", 0, 1, 0), None))
        word, why, marks = verdict_of(HERE, TURNED)
        self.assertEqual((word, why), ("apart", ("rope", 2)))
        self.assertTrue(still_by(HERE, marks, 2))

    def test_great_nets(self):
        rng = Random(48)
        for net in (great_net(), great_tree(), Net.ring(24)):
            for totals in ((15, 15), (30, 0), (1, 1)):
                rides, places = some_row(net, some_place(net, *totals, rng), 900, rng)
                first, second = standing_of(net, places[0]), standing_of(net, places[-1])
                self.assertIs(verdict_holds(first, second, ("alike", rides)), True)
                self.assertIs(verdict_holds(first, second, verdict_of(first, second)), True)
                other = standing_of(net, some_place(net, *totals, rng))
                claim = verdict_of(first, other)
                self.assertEqual(claim[1], difference_of(first, other))
                self.assertIs(verdict_holds(first, other, claim), True)

    def test_returned_lists_are_new(self):
        net = Net.row(3)
        first, second = Standing(net, [1, 0, 0], [0, 0, 0], [0, 0]), Standing(net, [0, 0, 1], [0, 0, 0], [1, 1])
        verdict_of(first, second)[1].append("spoilt")
        self.assertEqual(verdict_of(first, second), ("alike", [(0, "red"), (1, "red")]))


class Claims(Case):

    def test_rows(self):
        net = Net.row(3)
        first, second = Standing(net, [1, 0, 0], [0, 0, 0], [0, 0]), Standing(net, [0, 0, 1], [0, 0, 0], [1, 1])
        go = [(0, "red"), (1, "red")]
        back = [(1, "red"), (1, "red")]
        for rides, holds in ((go, True), (go + back, True), (back + go, False), ([], False), (go[:1], False),
                             (go + go[1:], False), ([(0, "blue")] + go, False), ([(-1, "red")] + go, False),
                             (go + [(2, "red")], False), (go + [(FAR, "red")], False), (go + [(-FAR, "red")], False),
                             (go + [(0, "green")], False), ([(0, ""), (1, "red")], False), (go[::-1], False),
                             (go + [(9, "green")], False), (go + back * 1000, True)):
            kept = list(rides)
            self.assertIs(verdict_holds(first, second, ("alike", rides)), holds)
            self.assertEqual(rides, kept)
        self.assertIs(verdict_holds(first, first, ("alike", [])), True)
        self.assertIs(verdict_holds(first, first, ("alike", [(-1, "red"), (-1, "red")])), False)

    def test_reds(self):
        net = Net.row(2)
        one, two = Standing(net, [1, 0], [0, 3], [0]), Standing(net, [2, 0], [1, 0], [0])
        for first, second, a, b, holds in ((one, two, 1, 2, True), (two, one, 2, 1, True), (one, two, 2, 1, False),
                                           (one, one, 1, 1, False), (one, two, 3, 1, False), (one, two, 1, FAR, False),
                                           (one, two, -FAR, 2, False), (one, one, 1, 2, False)):
            self.assertIs(verdict_holds(first, second, ("apart", ("reds", a, b), None)), holds)

    def test_books(self):
        net = Net.row(3)
        one, two = Standing(net, [1, 0, 0], [0, 0, 1], [0, 0]), Standing(net, [0, 0, 0], [1, 0, 2], [0, 0])
        ones = [book_of(net, place_of(one), station) for station in range(3)]
        twos = [book_of(net, place_of(two), station) for station in range(3)]
        self.assertEqual((ones, twos), ([0, -1, -1], [-2, -1, -2]))
        for station in (-FAR, -3, -1, 0, 1, 2, 3, FAR):
            for a in (-2, -1, 0, FAR):
                for b in (-2, -1, 0, -FAR):
                    holds = station in (0, 2) and (ones[station], twos[station]) == (a, b)
                    self.assertIs(verdict_holds(one, two, ("apart", ("book", station, a, b), None)), holds)
        self.assertIs(verdict_holds(one, one, ("apart", ("book", 0, 0, 0), None)), False)

    def test_a_claim_need_not_be_the_one_of_the_verdict(self):
        net = Net.row(3)
        one, two = Standing(net, [1, 0, 0], [0, 0, 1], [0, 0]), Standing(net, [0, 0, 0], [1, 0, 2], [0, 0])
        self.assertEqual(verdict_of(one, two), ("apart", ("reds", 1, 0), None))
        self.assertIs(verdict_holds(one, two, ("apart", ("book", 2, -1, -2), None)), True)

    def test_ropes(self):
        good = marks_of(HERE)
        for rope in range(2, 5):
            self.assertIs(verdict_holds(HERE, TURNED, ("apart", ("rope", rope), good)), True)
            self.assertIs(verdict_holds(HERE, TURNED, ("apart", ("rope", rope), Marks([0, 1], []))), True)
        for rope in (-FAR, -5, -1, 0, 1, 5, FAR):
            self.assertIs(verdict_holds(HERE, TURNED, ("apart", ("rope", rope), good)), False)
        for marks in (Marks([], []), Marks([0, 1, 2, 3, 4], []), Marks([0, 2], []), Marks([0], [0]), Marks([0, 9], []),
                      Marks([0, -1], []), Marks([FAR], [-FAR]), Marks([0], [2, 3, 4])):
            self.assertIs(verdict_holds(HERE, TURNED, ("apart", ("rope", 2), marks)), False)
        self.assertIs(verdict_holds(HERE, HERE, ("apart", ("rope", 2), good)), False)

    def test_a_rope_that_is_still_though_one_end_is_not_dead(self):
        # The rope at the border of the red side never runs; its cars may part two standings of unlike books, too.
        net = Net.row(2)
        one, two = Standing(net, [1, 0], [0, 0], [1]), Standing(net, [1, 0], [0, 0], [0])
        self.assertIs(verdict_holds(one, two, ("apart", ("rope", 0), marks_of(one))), True)
        self.assertIs(verdict_holds(two, one, ("apart", ("rope", 0), marks_of(two))), False)
        self.assertEqual(verdict_of(one, two)[1], ("book", 0, 1, 0))

    def test_other_nets(self):
        here = Standing.gathered(Net.row(3), 1, 1)
        for net in (Net.row(2), Net.ring(3), Net(3, [(1, 0), (1, 2)])):
            there = Standing.gathered(net, 0, 1)
            self.fails(lambda: verdict_of(here, there), OtherNet)
            for claim in (("alike", [(9, "green")]), ("apart", ("reds", 1, 0), None),
                          ("apart", ("book", 9, 0, 1), None), ("apart", ("rope", -1), Marks([9], []))):
                self.fails(lambda: verdict_holds(here, there, claim), OtherNet)


class Lengths(Case):

    def test_rows_of_just_so_many_rides(self):
        for net in TREES + RINGS:
            for totals in ((0, 0), (1, 0), (0, 2), (1, 1), (2, 1)):
                places = places_with(net, *totals)
                for one in places[::1 + len(places) // 5]:
                    some = places[::1 + len(places) // 30]
                    level = {one}
                    for count in range(8):
                        for two in some:
                            found = can_take(standing_of(net, one), standing_of(net, two), count)
                            self.assertIs(found, two in level)
                        level = {after for here in level for _, after in moves(net, here)}

    def test_long_rows(self):
        rng = Random(49)
        for net, least in ((great_tree(), least_number), (Net.row(24), least_number), (Net.ring(24), ring_number)):
            for totals in ((15, 15), (1, 0)):
                _, places = some_row(net, some_place(net, *totals, rng), 300, rng)
                first, second = standing_of(net, places[0]), standing_of(net, places[-1])
                number = least(first, second)
                rides = [ride for ride, _ in moves(net, places[0])]
                even = 10 ** 18 - 2 - number % 2
                for count, there in ((number, True), (number + 1, False), (number + 2, bool(rides)),
                                     (even, number % 2 == even % 2 and bool(rides))):
                    self.assertIs(can_take(first, second, count), there)
                for count in range(number):
                    self.assertIs(can_take(first, second, count), False)

    def test_no_ride_is_possible(self):
        net = Net.row(2)
        here = Standing(net, [1, 0], [0, 0], [1])
        self.assertEqual([can_take(here, here, count) for count in (0, 1, 2, FAR)], [True, False, False, False])
        one = Standing(Net(1, []), [3], [2], [])
        self.assertEqual([can_take(one, one, count) for count in (0, 1, 2, FAR)], [True, False, False, False])
        ring = Standing(Net.ring(3), [0] * 3, [0] * 3, [0] * 3)
        self.assertEqual([can_take(ring, ring, count) for count in (0, 2)], [True, False])

    def test_apart_standings(self):
        here, there = Standing.gathered(Net.ring(3), 1, 1), Standing.gathered(Net.ring(3), 2, 1)
        self.assertFalse(are_alike(here, there))
        for count in (0, 1, 2, FAR):
            self.assertIs(can_take(here, there, count), False)

    def test_errors(self):
        for net in OTHERS + CIRCLES + [great_net()]:
            here = Standing.gathered(net, 1, 1)
            for other in (here, Standing.gathered(Net.row(3), 1, 1)):
                for count in (0, -1, -FAR):
                    self.fails(lambda: can_take(here, other, count), NotExact)
        for net in (Net.row(3), Net.ring(3), Net(1, [])):
            here = Standing.gathered(net, 1, 1)
            for other in (Net.row(2), great_net()):
                for count in (0, -1):
                    self.fails(lambda: can_take(here, Standing.gathered(other, 0, 1), count), OtherNet)
            for there in (here, Standing.gathered(net, 2, 1)):
                for count in (-1, -2, -FAR):
                    self.fails(lambda: can_take(here, there, count), BadCount, count)


if __name__ == "__main__":
    unittest.main()
