"""Points 60 and 61: the house Together, and turning one rope."""

import unittest
from random import Random

from case import FAR, Case
from house_oracle import distances_by, kinds_by, some_steps, together_moves, walked_by
from oracle import (CIRCLES, OTHERS, RINGS, SMALL_NETS, TREES, arrows_at, closure, great_net, great_tree, place_of,
                    places_with, some_place, some_tree, standing_of, where)
from twinrope.arrows import can_meet
from twinrope.counts import kind_count, meeting_count
from twinrope.errors import (BadCount, NoColour, NoRope, NoTurn, NotATree, NotPossible, OtherNet, TogetherApart,
                             TooMany)
from twinrope.houses import House
from twinrope.kinship import difference_of
from twinrope.nets import Net
from twinrope.standings import Standing, standing_count
from twinrope.together import Together, together_difference, together_row, turn_one

HOUSE = Together()
GREAT = [great_net(), great_tree(), Net.ring(24), Net.row(24), Net.star(24)]
TOTALS = [(0, 0), (1, 0), (0, 2), (1, 1), (2, 1), (2, 2)]


def meets_in(net, place):
    return any(station in where(place[1]) for station in closure(where(place[0]), arrows_at(net, place)))


def turned(place, rope):
    cars = list(place[2])
    cars[rope] = 1 - cars[rope]
    return place[0], place[1], tuple(cars)


class Steps(Case):

    def test_the_words_of_the_house(self):
        self.assertEqual((Together.WORD, HOUSE.WORD, HOUSE.words()), ("together", "together", ("red", "blue", "both")))
        self.assertIsInstance(HOUSE, House)

    def test_steps(self):
        rng = Random(60)
        for net in SMALL_NETS + CIRCLES + GREAT:
            for totals in TOTALS + [(15, 15)]:
                place = some_place(net, *totals, rng)
                here = standing_of(net, place)
                found = together_moves(net, place)
                self.assertEqual(HOUSE.steps(here), [step for step, _ in found])
                after = dict(found)
                for rope in range(len(net.ropes)):
                    for word in ("red", "blue", "both"):
                        if (rope, word) in after:
                            self.assertEqual(place_of(HOUSE.step_to(here, rope, word)), after[rope, word])
                        else:
                            self.fails(lambda: HOUSE.step_to(here, rope, word), NotPossible, 0, rope, word)
                self.assertEqual(place_of(here), place)

    def test_both_by_hand(self):
        net = Net(2, [(1, 0)])
        here = Standing(net, [0, 2], [3, 0], [0])
        self.assertEqual(HOUSE.steps(here), [(0, "red"), (0, "blue"), (0, "both")])
        there = Standing(net, [1, 1], [2, 1], [1])
        self.assertEqual(HOUSE.step_to(here, 0, "both"), there)
        self.assertEqual(HOUSE.step_to(there, 0, "both"), here)
        alone = Standing(net, [0, 2], [0, 3], [0])
        self.assertEqual(HOUSE.steps(alone), [(0, "red")])
        self.fails(lambda: HOUSE.step_to(alone, 0, "both"), NotPossible, 0, 0, "both")

    def test_each_step_undoes_itself(self):
        rng = Random(61)
        for net in SMALL_NETS:
            here = standing_of(net, some_place(net, 3, 3, rng))
            for rope, word in HOUSE.steps(here):
                self.assertEqual(HOUSE.walk_steps(here, [(rope, word)] * 2)[-1], here)

    def test_walks(self):
        rng = Random(62)
        for net in SMALL_NETS + GREAT:
            place = some_place(net, 3, 3, rng)
            here = standing_of(net, place)
            steps, _ = some_steps(together_moves, net, place, 40, rng)
            found = HOUSE.walk_steps(here, steps)
            self.assertEqual([place_of(there) for there in found],
                             [walked_by(together_moves, net, place, steps[:at]) for at in range(len(steps) + 1)])
            self.assertEqual(HOUSE.walk_steps(here, []), [here])

    def test_errors(self):
        here = Standing(Net.row(3), [1, 0, 0], [0, 1, 0], [0, 0])
        for rope in (-1, 2, FAR):
            self.fails(lambda: HOUSE.step_to(here, rope, "green"), NoRope, rope)
            self.fails(lambda: HOUSE.walk_steps(here, [(1, "both"), (rope, "green")]), NoRope, rope)
        for word in ("", "first", "green", "Both"):
            self.fails(lambda: HOUSE.step_to(here, 1, word), NoColour, word)
            self.fails(lambda: HOUSE.walk_steps(here, [(1, "both"), (0, word), (-1, "red")]), NoColour, word)
        self.fails(lambda: HOUSE.step_to(here, 1, "both"), NotPossible, 0, 1, "both")
        self.fails(lambda: HOUSE.walk_steps(here, [(0, "both"), (0, "both"), (1, "both")]), NotPossible, 2, 1, "both")


class Kinds(Case):

    def test_same_kind_and_difference(self):
        rng = Random(63)
        for net in SMALL_NETS + CIRCLES:
            for totals in TOTALS[:5]:
                places = places_with(net, *totals)
                others = places_with(net, *rng.choice(TOTALS[:5]))
                for _ in range(4):
                    one = rng.choice(places)
                    kind = distances_by(together_moves, net, one)
                    for two in (rng.choice(places), rng.choice(others), rng.choice(sorted(kind))):
                        first, second = standing_of(net, one), standing_of(net, two)
                        why = together_difference(first, second)
                        self.assertIs(why is None, two in kind)
                        self.assertIs(HOUSE.same_kind(first, second), two in kind)
                        self.assertEqual(why, None if two in kind else self.difference(net, one, two))

    def difference(self, net, one, two):
        for word, part in (("reds", 0), ("blues", 1)):
            if sum(one[part]) != sum(two[part]):
                return word, sum(one[part]), sum(two[part])
        meets = meets_in(net, one), meets_in(net, two)
        if meets[0] != meets[1]:
            return "meet", *meets
        return difference_of(standing_of(net, one), standing_of(net, two))

    def test_each_form_and_their_order(self):
        net = Net.row(3)
        one = Standing(net, [1, 0, 0], [0, 0, 1], [0, 0])
        for two, why in ((Standing(net, [0, 1, 0], [1, 0, 0], [1, 0]), None),
                         (Standing(net, [2, 0, 0], [0, 1, 1], [1, 1]), ("reds", 1, 2)),
                         (Standing(net, [0, 0, 0], [0, 0, 1], [0, 0]), ("reds", 1, 0)),
                         (Standing(net, [1, 0, 0], [0, 1, 1], [1, 0]), ("blues", 1, 2)),
                         (Standing(net, [1, 0, 0], [0, 0, 0], [1, 0]), ("blues", 1, 0)),
                         (Standing(net, [1, 0, 0], [0, 0, 1], [1, 0]), ("meet", True, False))):
            self.assertEqual(together_difference(one, two), why)
        never = Standing(net, [1, 0, 0], [0, 0, 1], [1, 0])
        self.assertEqual(together_difference(never, one), ("meet", False, True))
        other = Standing(net, [1, 0, 0], [0, 0, 1], [0, 1])
        self.assertEqual(together_difference(never, other), difference_of(never, other))
        self.assertEqual(difference_of(never, other)[0], "book")
        circle = [Standing(CIRCLES[1], [1] + [0] * 4, [0] * 5, [1, 1, car, car, car]) for car in (0, 1)]
        self.assertEqual(together_difference(*circle), ("rope", 2))

    def test_kind_totals(self):
        for net in TREES:
            for totals in TOTALS + [(3, 0)]:
                self.assertEqual(HOUSE.kind_total(net, *totals), len(kinds_by(together_moves, net, *totals)))
        tree = great_tree()
        self.assertEqual(HOUSE.kind_total(tree, 15, 15), kind_count(23, 15, 15) - meeting_count(23, 15, 15) + 1)
        self.assertEqual(HOUSE.kind_total(tree, 30, 0), kind_count(23, 30, 0))

    def test_groups(self):
        for net in SMALL_NETS + CIRCLES:
            for totals in ((0, 0), (1, 0), (1, 1), (2, 1)):
                if standing_count(net, *totals) <= 400:
                    found = HOUSE.groups(net, *totals)
                    self.assertEqual([[place_of(there) for there in kind] for kind in found],
                                     kinds_by(together_moves, net, *totals))
                else:
                    self.fails(lambda: HOUSE.groups(net, *totals), TooMany, 400)
        found = HOUSE.groups(Net.row(2), 19, 9)
        self.assertEqual((len(found), sum(len(kind) for kind in found)), (HOUSE.kind_total(Net.row(2), 19, 9), 400))

    def test_errors(self):
        for net in RINGS + OTHERS + [great_net()]:
            for totals in ((1, 1), (-1, -1), (31, 0)):
                self.fails(lambda: HOUSE.kind_total(net, *totals), NotATree)
        for entry in (HOUSE.kind_total, HOUSE.groups):
            self.fails(lambda: entry(Net.row(3), -1, -2), BadCount, -1)
            self.fails(lambda: entry(Net.row(3), 1, -2), BadCount, -2)
            self.fails(lambda: entry(Net.row(3), 1, 30), TooMany, 30)
        one, two = Standing.gathered(Net.row(3), 1, 1), Standing.gathered(Net.ring(3), 2, 2)
        for entry in (HOUSE.same_kind, together_difference, together_row):
            self.fails(lambda: entry(one, two), OtherNet)

    def test_returned_lists_are_new(self):
        here = Standing.gathered(Net.row(2), 1, 1)
        kept = HOUSE.steps(here)
        HOUSE.steps(here).append("spoilt")
        self.assertEqual(HOUSE.steps(here), kept)
        groups = HOUSE.groups(here.net, 1, 1)
        many = [len(kind) for kind in groups]
        groups[0].clear()
        self.assertEqual([len(kind) for kind in HOUSE.groups(here.net, 1, 1)], many)


class Turning(Case):

    def check(self, net, place):
        """Each rope is turned exactly if there is a way that leaves it out."""
        here = standing_of(net, place)
        for rope in range(len(net.ropes)):
            arrows = [pair for other, pair in enumerate(arrows_at(net, place)) if other != rope]
            if any(station in where(place[1]) for station in closure(where(place[0]), arrows)):
                row = turn_one(here, rope)
                self.assertEqual(walked_by(together_moves, net, place, row), turned(place, rope))
                self.assertLessEqual(len(row), 6 * net.stations)
            else:
                self.fails(lambda: turn_one(here, rope), NoTurn, rope)
        self.assertEqual(place_of(here), place)

    def test_small_nets(self):
        rng = Random(64)
        for net in SMALL_NETS + CIRCLES:
            for totals in TOTALS:
                for _ in range(6):
                    self.check(net, some_place(net, *totals, rng))

    def test_great_nets(self):
        rng = Random(65)
        for net in GREAT + [some_tree(24, rng)]:
            for totals in ((1, 1), (15, 15), (29, 1), (1, 29), (30, 0)):
                self.check(net, some_place(net, *totals, rng))

    def test_there_is_no_other_row(self):
        # A search agrees that the rope cannot be turned alone where no way leaves it out.
        rng = Random(66)
        for net in TREES[3:] + RINGS[:3]:
            for totals in ((1, 1), (1, 0), (0, 1)):
                place = some_place(net, *totals, rng)
                kind = distances_by(together_moves, net, place)
                for rope in range(len(net.ropes)):
                    if turned(place, rope) in kind:
                        row = turn_one(standing_of(net, place), rope)
                        self.assertEqual(walked_by(together_moves, net, place, row), turned(place, rope))
                    else:
                        self.fails(lambda: turn_one(standing_of(net, place), rope), NoTurn, rope)

    def test_the_longest_way(self):
        # The guests meet at one end of a row, and the rope is at the other.
        for size in (2, 3, 8, 23):
            ropes = [(k, k + 1) for k in range(size)]
            net = Net(size + 1, ropes)
            guests = tuple(int(s == 1) for s in range(size + 1)), tuple(int(s == size) for s in range(size + 1))
            self.check(net, (*guests, (0,) * size))
            self.check(net, (guests[1], guests[0], (1,) * size))

    def test_errors(self):
        here = Standing(Net.row(3), [1, 0, 0], [0, 0, 1], [0, 0])
        for rope in (-1, 2, FAR):
            self.fails(lambda: turn_one(here, rope), NoRope, rope)
        for rope in (0, 1):
            self.fails(lambda: turn_one(here, rope), NoTurn, rope)
        empty = Standing.gathered(Net.ring(3), 0, 0)
        for rope in (-1, 3, FAR):
            self.fails(lambda: turn_one(empty, rope), NoRope, rope)
        for rope in range(3):
            self.fails(lambda: turn_one(empty, rope), NoTurn, rope)


class Rows(Case):

    def check(self, net, one, two):
        first, second = standing_of(net, one), standing_of(net, two)
        row = together_row(first, second)
        self.assertEqual(walked_by(together_moves, net, one, row), two)
        self.assertLessEqual(len(row), 5000)
        self.assertEqual((place_of(first), place_of(second)), (one, two))

    def test_small_nets(self):
        rng = Random(67)
        for net in SMALL_NETS + CIRCLES:
            for totals in TOTALS:
                places = places_with(net, *totals)
                for _ in range(6):
                    one = rng.choice(places)
                    for two in (rng.choice(places), some_steps(together_moves, net, one, 30, rng)[1], one):
                        why = together_difference(standing_of(net, one), standing_of(net, two))
                        if why is None:
                            self.check(net, one, two)
                        else:
                            self.fails(lambda: together_row(standing_of(net, one), standing_of(net, two)),
                                       TogetherApart, why)

    def test_the_greatest_nets(self):
        rng = Random(68)
        dense = Net(8, [(k % 8, (k + 1 + k // 8) % 8) for k in range(40)])
        long = Net(8, [(k, k + 1) for k in range(7)] + [(6, 7)] * 33)
        for net in (dense, long, Net.row(8), Net.ring(8), Net.star(8)):
            for totals in ((4, 4), (1, 7), (7, 1), (8, 0), (0, 8), (1, 0)):
                for _ in range(3):
                    one = some_place(net, *totals, rng)
                    two = some_place(net, *totals, rng)
                    if not HOUSE.same_kind(standing_of(net, one), standing_of(net, two)):
                        two = some_steps(together_moves, net, one, 200, rng)[1]
                    self.check(net, one, two)

    def test_all_cars_have_to_be_turned(self):
        net = Net(8, [(k, k + 1) for k in range(7)] + [(0, 1)] * 33)
        one = (0,) * 7 + (4,), (0,) * 7 + (4,), (1,) * 40
        two = (0,) * 7 + (4,), (0,) * 7 + (4,), (0,) * 40
        self.check(net, one, two)
        self.check(net, two, one)

    def test_nine_stations_and_nine_guests(self):
        for net in (Net.row(9), Net.ring(9), great_net(), great_tree()):
            here = Standing.gathered(net, 1, 1)
            for there in (here, Standing.gathered(net, 2, 1), Standing.gathered(net, 1, 0)):
                self.fails(lambda: together_row(here, there), TooMany, 8)
        for totals in ((9, 0), (0, 9), (5, 4), (15, 15)):
            here = Standing.gathered(Net.row(3), *totals)
            for there in (here, Standing.gathered(Net.row(3), 1, 1)):
                self.fails(lambda: together_row(here, there), TooMany, 8)
        for net in (Net.row(9), Net.row(3)):
            for totals in ((9, 0), (1, 1)):
                there = Standing.gathered(Net.ring(4), 1, 1)
                self.fails(lambda: together_row(Standing.gathered(net, *totals), there), OtherNet)
        few, many = Standing.gathered(Net.row(8), 4, 4), Standing.gathered(Net.row(8), 5, 4)
        self.fails(lambda: together_row(few, many), TogetherApart, ("reds", 4, 5))
        self.assertTrue(can_meet(few))
        self.check(Net.row(8), place_of(few), place_of(few))

    def test_each_form_of_apart(self):
        net = Net.row(3)
        one = Standing(net, [1, 0, 0], [0, 0, 1], [0, 0])
        never = Standing(net, [1, 0, 0], [0, 0, 1], [1, 0])
        for first, second, why in ((one, Standing(net, [1, 1, 0], [0, 0, 0], [1, 0]), ("reds", 1, 2)),
                                   (one, Standing(net, [1, 0, 0], [0, 0, 0], [1, 0]), ("blues", 1, 0)),
                                   (one, never, ("meet", True, False)), (never, one, ("meet", False, True))):
            self.fails(lambda: together_row(first, second), TogetherApart, why)
        circle = [Standing(CIRCLES[1], [1] + [0] * 4, [0] * 5, [1, 1, car, car, car]) for car in (0, 1)]
        self.fails(lambda: together_row(*circle), TogetherApart, ("rope", 2))

    def test_returned_lists_are_new(self):
        here, there = (Standing(Net.row(3), [1, 0, 0], [1, 0, 0], [car, 0]) for car in (0, 1))
        for entry in (lambda: together_row(here, there), lambda: turn_one(here, 0), lambda: turn_one(there, 1)):
            kept = list(entry())
            entry().append("spoilt")
            self.assertEqual(entry(), kept)


if __name__ == "__main__":
    unittest.main()
