"""Points 58 and 59: the blind house and its rows."""

import unittest
from random import Random

from case import FAR, Case
from house_oracle import blind_moves, distances_by, kinds_by, some_steps, walked_by
from oracle import (CIRCLES, OTHERS, RINGS, SMALL_NETS, TREES, great_net, great_tree, kinds_of, place_of, places_with,
                    side_of, some_place, some_tree, standing_of)
from twinrope.blind import Blind, blind_difference, blind_number, blind_of, blind_plan, blind_row
from twinrope.errors import (BadCount, BlindApart, HasBlues, NoColour, NoRope, NotATree, NotPossible, OtherNet, TooMany)
from twinrope.houses import House
from twinrope.nets import Net
from twinrope.standings import Standing, every_standing, standing_count

HOUSE = Blind()
GREAT = [great_net(), great_tree(), Net.ring(24), Net.row(24), Net.star(24)]
ENTRIES = [HOUSE.same_kind, blind_difference, blind_number, blind_row, blind_plan]


def difference(net, one, two):
    """The blind difference, from a search."""
    if two in distances_by(blind_moves, net, one):
        return None
    if sum(one[0]) != sum(two[0]):
        return "guests", sum(one[0]), sum(two[0])
    for station in range(net.stations):
        odd = [(place[0][station] + [ends[car] for ends, car in zip(net.ropes, place[2])].count(station)) % 2
               for place in (one, two)]
        if odd[0] != odd[1]:
            return "station", station
    return "rope", [car == other for car, other in zip(one[2], two[2])].index(False)


class BlindHouse(Case):

    def test_the_words_of_the_house(self):
        self.assertEqual((Blind.WORD, HOUSE.WORD, HOUSE.words()), ("blind", "blind", ("first", "second")))
        self.assertIsInstance(HOUSE, House)

    def test_steps(self):
        rng = Random(57)
        for net in SMALL_NETS + CIRCLES + GREAT:
            for guests in (0, 1, 3, 30):
                place = some_place(net, guests, 0, rng)
                here = standing_of(net, place)
                found = blind_moves(net, place)
                self.assertEqual(HOUSE.steps(here), [step for step, _ in found])
                after = dict(found)
                for rope in range(len(net.ropes)):
                    for word in ("first", "second"):
                        if (rope, word) in after:
                            self.assertEqual(place_of(HOUSE.step_to(here, rope, word)), after[rope, word])
                        else:
                            self.fails(lambda: HOUSE.step_to(here, rope, word), NotPossible, 0, rope, word)
                self.assertEqual(place_of(here), place)

    def test_walks(self):
        rng = Random(58)
        for net in SMALL_NETS + GREAT:
            place = some_place(net, 3, 0, rng)
            here = standing_of(net, place)
            steps, _ = some_steps(blind_moves, net, place, 40, rng)
            found = HOUSE.walk_steps(here, steps)
            self.assertEqual(len(found), len(steps) + 1)
            for at in range(len(found)):
                self.assertEqual(place_of(found[at]), walked_by(blind_moves, net, place, steps[:at]))
            self.assertEqual(HOUSE.walk_steps(here, []), [here])

    def test_errors_of_steps_and_walks(self):
        here = Standing(Net.row(3), [1, 0, 0], [0, 0, 0], [0, 0])
        blues = Standing(Net.row(3), [1, 0, 0], [0, 2, 1], [0, 0])
        for there in (here, blues):
            for rope in (-1, 2, FAR):
                self.fails(lambda: HOUSE.step_to(there, rope, "green"), NoRope, rope)
                self.fails(lambda: HOUSE.walk_steps(there, [(1, "second"), (rope, "red")]), NoRope, rope)
            for word in ("", "red", "blue", "both", "third"):
                self.fails(lambda: HOUSE.step_to(there, 0, word), NoColour, word)
                self.fails(lambda: HOUSE.walk_steps(there, [(1, "second"), (0, word), (9, "first")]), NoColour, word)
        self.fails(lambda: HOUSE.step_to(here, 1, "first"), NotPossible, 0, 1, "first")
        self.fails(lambda: HOUSE.walk_steps(here, [(0, "first"), (1, "second"), (9, "red")]), NoRope, 9)
        self.fails(lambda: HOUSE.walk_steps(here, [(0, "first"), (1, "second")]), NotPossible, 1, 1, "second")
        for entry in (lambda: HOUSE.steps(blues), lambda: HOUSE.step_to(blues, 1, "second"),
                      lambda: HOUSE.walk_steps(blues, []), lambda: HOUSE.walk_steps(blues, [(1, "second")]),
                      lambda: HOUSE.walk_steps(blues, [(0, "first")])):
            self.fails(entry, HasBlues, 1)

    def test_long_walks(self):
        here = standing_of(great_net(), some_place(great_net(), 30, 0, Random(59)))
        rope, word = HOUSE.steps(here)[0]
        back = (rope, "second" if word == "first" else "first")
        self.assertEqual(HOUSE.walk_steps(here, [(rope, word), back] * 2500)[-1], here)

    def test_same_kind(self):
        rng = Random(60)
        for net in SMALL_NETS + CIRCLES:
            for guests in (0, 1, 2, 3):
                places = places_with(net, guests, 0)
                for _ in range(4):
                    one, two = rng.choice(places), rng.choice(places)
                    kind = distances_by(blind_moves, net, one)
                    self.assertIs(HOUSE.same_kind(standing_of(net, one), standing_of(net, two)), two in kind)

    def test_groups(self):
        for net in SMALL_NETS + CIRCLES:
            for guests in (0, 1, 2, 3):
                if standing_count(net, guests, 0) <= 400:
                    found = HOUSE.groups(net, guests, 0)
                    self.assertEqual([[place_of(there) for there in kind] for kind in found],
                                     kinds_by(blind_moves, net, guests, 0))
                    if net.is_tree:
                        self.assertEqual(len(found), HOUSE.kind_total(net, guests, 0))
                else:
                    self.fails(lambda: HOUSE.groups(net, guests, 0), TooMany, 400)

    def test_four_hundred_standings(self):
        # 16 * 25 is 400, and 16 * 26 is 416.
        net = Net(2, [(0, 1), (1, 0), (0, 1), (0, 1)])
        for net, guests in ((net, 24), (Net.row(3), 12), (Net.row(4), 4), (Net.row(2), 30)):
            found = HOUSE.groups(net, guests, 0)
            self.assertEqual([[place_of(there) for there in kind] for kind in found],
                             kinds_by(blind_moves, net, guests, 0))
        self.assertEqual(standing_count(Net(2, [(0, 1)] * 4), 24, 0), 400)
        for net, guests in ((Net(2, [(0, 1)] * 4), 25), (Net.row(3), 13), (Net.row(4), 5), (great_net(), 0),
                            (great_net(), 30)):
            self.fails(lambda: HOUSE.groups(net, guests, 0), TooMany, 400)

    def test_kind_totals(self):
        for net in TREES:
            for guests in (0, 1, 2, 3):
                self.assertEqual(HOUSE.kind_total(net, guests, 0), len(kinds_by(blind_moves, net, guests, 0)))
        for net in (great_tree(), Net.row(24)):
            self.assertEqual(HOUSE.kind_total(net, 30, 0), 2 ** 23)

    def test_errors_of_totals(self):
        for net in RINGS + OTHERS + [great_net()]:
            for totals in ((1, 0), (1, 1), (-1, -1)):
                self.fails(lambda: HOUSE.kind_total(net, *totals), NotATree)
        for net in (Net.row(3), great_tree()):
            for entry in (HOUSE.kind_total, HOUSE.groups):
                self.fails(lambda: entry(net, -3, 1), BadCount, -3)
                self.fails(lambda: entry(net, 3, -1), BadCount, -1)
                self.fails(lambda: entry(net, 30, 1), TooMany, 30)
                for reds, blues in ((0, 1), (5, 7), (0, 30), (29, 1)):
                    self.fails(lambda: entry(net, reds, blues), HasBlues, -1)
        self.fails(lambda: HOUSE.groups(great_net(), 1, 1), HasBlues, -1)

    def test_blind_of(self):
        rng = Random(61)
        for net in SMALL_NETS + GREAT:
            for totals in ((0, 0), (2, 3), (30, 0), (0, 30), (15, 15)):
                place = some_place(net, *totals, rng)
                found = blind_of(standing_of(net, place))
                self.assertEqual(found.reds, tuple(red + blue for red, blue in zip(*place[:2])))
                self.assertEqual((found.net, found.blues, found.cars), (net, (0,) * net.stations, place[2]))

    def test_alike_standings_are_of_one_blind_kind(self):
        for net in SMALL_NETS + CIRCLES[:2]:
            for totals in ((1, 0), (0, 1), (1, 1), (0, 0)):
                for kind in kinds_of(net, *totals):
                    first = blind_of(standing_of(net, kind[0]))
                    for place in kind[1:]:
                        self.assertIs(HOUSE.same_kind(first, blind_of(standing_of(net, place))), True)


class Differences(Case):

    def test_against_a_search(self):
        rng = Random(62)
        found = set()
        for net in SMALL_NETS + CIRCLES:
            for guests in (0, 1, 2):
                places = places_with(net, guests, 0)
                others = places_with(net, rng.choice((0, 1, 3)), 0)
                for _ in range(8):
                    one = rng.choice(places)
                    for two in (rng.choice(places), rng.choice(others)):
                        why = blind_difference(standing_of(net, one), standing_of(net, two))
                        self.assertEqual(why, difference(net, one, two))
                        found.add(why and why[0])
        self.assertEqual(found, {None, "guests", "station", "rope"})

    def test_each_form(self):
        ring = Net.ring(4)
        empty = Standing(ring, [0] * 4, [0] * 4, [0, 0, 0, 0])
        turned = Standing(ring, [0] * 4, [0] * 4, [1, 1, 1, 1])
        self.assertEqual(blind_difference(empty, turned), ("rope", 0))
        self.assertIsNone(blind_difference(empty, empty))
        some = Standing(ring, [0, 2, 0, 0], [0] * 4, [0, 0, 0, 0])
        self.assertEqual(blind_difference(empty, some), ("guests", 0, 2))
        self.assertEqual(blind_difference(some, empty), ("guests", 2, 0))
        self.assertEqual(blind_difference(some, Standing(ring, [0, 0, 1, 1], [0] * 4, [0, 0, 0, 0])), ("station", 2))
        self.assertEqual(blind_difference(empty, Standing(ring, [0] * 4, [0] * 4, [0, 0, 1, 0])), ("station", 2))
        self.assertIsNone(blind_difference(some, Standing(ring, [2, 0, 0, 0], [0] * 4, [1, 1, 1, 1])))
        two = Net(2, [(0, 1), (0, 1), (1, 0)])
        self.assertEqual(blind_difference(Standing(two, [0, 0], [0, 0], [0, 0, 1]),
                                          Standing(two, [0, 0], [0, 0], [0, 1, 0])), ("rope", 1))

    def test_blues(self):
        net = Net.row(3)
        good = Standing(net, [1, 0, 0], [0, 0, 0], [0, 0])
        some = Standing(net, [0, 1, 0], [0, 1, 1], [0, 0])
        more = Standing(net, [0, 1, 0], [1, 1, 1], [1, 1])
        for entry in ENTRIES:
            self.fails(lambda: entry(good, some), HasBlues, 1)
            self.fails(lambda: entry(some, good), HasBlues, 1)
            self.fails(lambda: entry(some, more), HasBlues, 1)
            self.fails(lambda: entry(more, some), HasBlues, 0)

    def test_shapes_and_other_nets(self):
        ring, row = Net.ring(3), Net.row(3)
        blues = [Standing.gathered(net, 0, 1) for net in (ring, row)]
        for entry in (blind_number, blind_row):
            for net in RINGS + OTHERS + [great_net()]:
                self.fails(lambda: entry(Standing.gathered(net, 0, 1), blues[1]), NotATree)
            self.fails(lambda: entry(blues[1], blues[0]), OtherNet)
        for entry in (HOUSE.same_kind, blind_difference, blind_plan):
            self.fails(lambda: entry(blues[0], blues[1]), OtherNet)
            self.fails(lambda: entry(blues[1], blues[0]), OtherNet)

    def test_blind_apart(self):
        row = Net.row(3)
        one = Standing(row, [1, 0, 0], [0, 0, 0], [0, 0])
        for two, why in ((Standing(row, [2, 0, 0], [0, 0, 0], [0, 0]), ("guests", 1, 2)),
                         (Standing(row, [0, 1, 0], [0, 0, 0], [0, 0]), ("station", 0)),
                         (Standing(row, [1, 0, 0], [0, 0, 0], [0, 1]), ("station", 1))):
            for entry in (blind_number, blind_row, blind_plan):
                self.fails(lambda: entry(one, two), BlindApart, why)
        empty = [Standing(Net.ring(3), [0] * 3, [0] * 3, [car] * 3) for car in (0, 1)]
        self.fails(lambda: blind_plan(*empty), BlindApart, ("rope", 0))


class Rows(Case):

    def test_least_rows_on_small_trees(self):
        rng = Random(63)
        for net in TREES + [Net.row(4), Net.star(5)]:
            for guests in (0, 1, 2, 3):
                places = places_with(net, guests, 0)
                for _ in range(4):
                    one = rng.choice(places)
                    far = distances_by(blind_moves, net, one)
                    for two in rng.sample(sorted(far), min(len(far), 6)):
                        first, second = standing_of(net, one), standing_of(net, two)
                        self.assertEqual(blind_number(first, second), far[two])
                        row = blind_row(first, second)
                        self.assertEqual(row, self.first_useful_steps(net, one, two))
                        self.assertEqual(walked_by(blind_moves, net, one, row), two)

    def first_useful_steps(self, net, one, two):
        """At each moment the step with the least rope after which the way that is left is one shorter."""
        left = distances_by(blind_moves, net, two)
        row = []
        while one != two:
            found = [(step, after) for step, after in blind_moves(net, one) if left[after] == left[one] - 1]
            ropes = [step[0] for step, _ in found]
            self.assertEqual(len(ropes), len(set(ropes)))
            step, one = min(found)
            row.append(step)
        return row

    def test_least_rows_on_great_trees(self):
        rng = Random(64)
        for net in (great_tree(), Net.row(24), Net.star(24), some_tree(24, rng)):
            for guests in (0, 1, 30):
                one, two = some_place(net, guests, 0, rng), some_place(net, guests, 0, rng)
                if not HOUSE.same_kind(standing_of(net, one), standing_of(net, two)):
                    _, two = some_steps(blind_moves, net, one, 300, rng)
                first, second = standing_of(net, one), standing_of(net, two)
                number = sum(abs(sum(two[0][s] - one[0][s] for s in side_of(net, ends[1], rope)))
                             for rope, ends in enumerate(net.ropes))
                self.assertEqual(blind_number(first, second), number)
                row = blind_row(first, second)
                self.assertEqual((len(row), walked_by(blind_moves, net, one, row)), (number, two))

    def check_plan(self, net, one, two):
        first, second = standing_of(net, one), standing_of(net, two)
        row = blind_plan(first, second)
        self.assertEqual(walked_by(blind_moves, net, one, row), two)
        self.assertLessEqual(len(row), (sum(one[0]) + 3 * len(net.ropes)) * net.stations)
        self.assertEqual((place_of(first), place_of(second)), (one, two))

    def test_plans_on_small_nets(self):
        rng = Random(65)
        for net in SMALL_NETS + CIRCLES:
            for guests in (0, 1, 2, 3):
                one = rng.choice(places_with(net, guests, 0))
                kind = sorted(distances_by(blind_moves, net, one))
                for two in rng.sample(kind, min(len(kind), 12)):
                    self.check_plan(net, one, two)

    def test_plans_on_great_nets(self):
        rng = Random(66)
        for net in GREAT:
            for guests in (0, 1, 2, 30):
                one = some_place(net, guests, 0, rng)
                _, two = some_steps(blind_moves, net, one, 500, rng)
                self.check_plan(net, one, two)
                self.check_plan(net, two, one)

    def test_all_cars_have_to_be_turned(self):
        for net in (Net.ring(24), Net.ring(5), Net(2, [(0, 1)] * 40), Net(3, [(0, 1), (1, 0), (1, 2), (2, 1)])):
            for guests in (1, 30):
                for cars in ([0] * len(net.ropes), [rope % 2 for rope in range(len(net.ropes))]):
                    first = (guests,) + (0,) * (net.stations - 1)
                    one, two = ((first, (0,) * net.stations, tuple(part)) for part in (cars, [1 - car for car in cars]))
                    self.check_plan(net, one, two)

    def test_several_circles_have_to_be_turned(self):
        # Circles of two ropes each hang far from the only guest, and from one another.
        ropes = [(k, k + 1) for k in range(23)] + [(k, k + 1) for k in range(0, 23, 2)]
        net = Net(24, ropes)
        turned = [int(rope >= 23 or rope % 2 == 0) for rope in range(len(ropes))]
        for station in (0, 11, 23):
            guests = tuple(int(s == station) for s in range(24))
            self.check_plan(net, (guests, (0,) * 24, (0,) * len(ropes)), (guests, (0,) * 24, tuple(turned)))

    def test_equal_standings(self):
        for net in SMALL_NETS:
            here = Standing.gathered(net, 2, 0)
            self.assertEqual(blind_plan(here, here), [])
            if net.is_tree:
                self.assertEqual((blind_number(here, here), blind_row(here, here)), (0, []))

    def test_returned_lists_are_new(self):
        one = Standing(Net.row(3), [1, 0, 0], [0, 0, 0], [0, 0])
        two = Standing(Net.row(3), [0, 0, 1], [0, 0, 0], [1, 1])
        for entry in (blind_row, blind_plan):
            entry(one, two).append("spoilt")
            self.assertEqual(entry(one, two), [(0, "first"), (1, "first")])

    def test_every_pair_of_a_small_ring(self):
        net = Net.ring(2)
        places = [place_of(here) for here in every_standing(net, 2, 0)]
        for one in places:
            kind = distances_by(blind_moves, net, one)
            for two in places:
                if two in kind:
                    self.check_plan(net, one, two)
                else:
                    self.fails(lambda: blind_plan(standing_of(net, one), standing_of(net, two)), BlindApart,
                               difference(net, one, two))


if __name__ == "__main__":
    unittest.main()
