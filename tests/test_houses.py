"""Point 57: the coloured house."""

import unittest
from random import Random

from case import FAR, Case
from house_oracle import coloured_moves, distances_by, kinds_by, some_steps
from oracle import (CIRCLES, OTHERS, RINGS, SMALL_NETS, TREES, all_rides, great_net, great_tree, kinds_of, moves,
                    place_of, places_with, some_place, standing_of)
from twinrope.counts import kind_count
from twinrope.errors import (BadCount, NoColour, NoRope, NotATree, NotPossible, OtherNet, TooMany)
from twinrope.houses import House
from twinrope.kinship import are_alike
from twinrope.nets import Net
from twinrope.rides import after_ride, rides_from, walk
from twinrope.standings import Standing, standing_count

HOUSE = House()


class Steps(Case):

    def test_the_words_of_the_house(self):
        self.assertEqual((House.WORD, HOUSE.WORD, HOUSE.words()), ("coloured", "coloured", ("red", "blue")))

    def test_steps_are_the_rides(self):
        rng = Random(57)
        for net in SMALL_NETS + CIRCLES + [great_net(), great_tree()]:
            for totals in ((0, 0), (1, 0), (2, 3), (15, 15)):
                place = some_place(net, *totals, rng)
                here = standing_of(net, place)
                found = moves(net, place)
                self.assertEqual(HOUSE.steps(here), [ride for ride, _ in found])
                self.assertEqual(HOUSE.steps(here), rides_from(here))
                after = dict(found)
                for rope in range(len(net.ropes)):
                    for word in ("red", "blue"):
                        if (rope, word) in after:
                            there = HOUSE.step_to(here, rope, word)
                            self.assertEqual(place_of(there), after[rope, word])
                            self.assertEqual(there, after_ride(here, rope, word))
                        else:
                            self.fails(lambda: HOUSE.step_to(here, rope, word), NotPossible, 0, rope, word)
                self.assertEqual(place_of(here), place)

    def test_errors_of_a_step(self):
        here = Standing.gathered(Net.row(3), 1, 0)
        for rope in (-1, 2, FAR, -FAR):
            self.fails(lambda: HOUSE.step_to(here, rope, "green"), NoRope, rope)
        for word in ("", "green", "both", "first", "second", "RED"):
            self.fails(lambda: HOUSE.step_to(here, 1, word), NoColour, word)
        self.fails(lambda: HOUSE.step_to(here, 1, "red"), NotPossible, 0, 1, "red")
        self.fails(lambda: HOUSE.step_to(here, 0, "blue"), NotPossible, 0, 0, "blue")

    def test_walks(self):
        rng = Random(58)
        for net in SMALL_NETS + [great_net()]:
            place = some_place(net, 2, 2, rng)
            steps, last = some_steps(coloured_moves, net, place, 30, rng)
            here = standing_of(net, place)
            found = HOUSE.walk_steps(here, steps)
            self.assertEqual(found, walk(here, steps))
            self.assertEqual(place_of(found[-1]), last)
            self.assertEqual(HOUSE.walk_steps(here, []), [here])

    def test_errors_of_walks(self):
        here = Standing.gathered(Net.row(3), 1, 0)
        go = (0, "red")
        self.fails(lambda: HOUSE.walk_steps(here, [(0, "blue"), (2, "red")]), NoRope, 2)
        self.fails(lambda: HOUSE.walk_steps(here, [(0, "blue"), (0, "both")]), NoColour, "both")
        self.fails(lambda: HOUSE.walk_steps(here, [(0, "green"), (-1, "red")]), NoColour, "green")
        self.fails(lambda: HOUSE.walk_steps(here, [(-1, "green")]), NoRope, -1)
        self.fails(lambda: HOUSE.walk_steps(here, [go, go, (0, "blue"), (1, "blue")]), NotPossible, 2, 0, "blue")
        self.fails(lambda: HOUSE.walk_steps(here, [(1, "red")]), NotPossible, 0, 1, "red")

    def test_a_long_walk(self):
        here = Standing(great_net(), [1] * 15 + [0] * 9, [0] * 9 + [1] * 15, [0, 1] * 20)
        steps = [HOUSE.steps(here)[0]] * 5000
        found = HOUSE.walk_steps(here, steps)
        self.assertEqual((len(found), found[-1]), (5001, here))
        bad = [step for step in all_rides(here.net) if step not in HOUSE.steps(here)][0]
        self.fails(lambda: HOUSE.walk_steps(here, steps[:-2] + [bad]), NotPossible, 4998, *bad)

    def test_returned_lists_are_new(self):
        here = Standing.gathered(Net.row(3), 1, 1)
        kept = list(HOUSE.steps(here))
        HOUSE.steps(here).append("spoilt")
        self.assertEqual(HOUSE.steps(here), kept)
        steps = [(0, "red")]
        HOUSE.walk_steps(here, steps).clear()
        self.assertEqual((len(HOUSE.walk_steps(here, steps)), steps), (2, [(0, "red")]))


class Kinds(Case):

    def test_same_kind(self):
        rng = Random(59)
        for net in SMALL_NETS + CIRCLES:
            for totals in ((0, 0), (1, 0), (1, 1), (2, 1)):
                places = places_with(net, *totals)
                for _ in range(4):
                    one = rng.choice(places)
                    kind = distances_by(coloured_moves, net, one)
                    for two in (rng.choice(places), rng.choice(sorted(kind))):
                        first, second = standing_of(net, one), standing_of(net, two)
                        self.assertIs(HOUSE.same_kind(first, second), two in kind)
                        self.assertIs(HOUSE.same_kind(first, second), are_alike(first, second))
        other = Standing.gathered(Net.row(2), 1, 1)
        self.fails(lambda: HOUSE.same_kind(Standing.gathered(Net.row(3), 1, 1), other), OtherNet)

    def test_kind_totals(self):
        for net in TREES:
            for reds, blues in ((0, 0), (1, 0), (0, 2), (1, 1), (2, 1)):
                number = HOUSE.kind_total(net, reds, blues)
                self.assertEqual(number, len(kinds_of(net, reds, blues)))
                self.assertEqual(number, kind_count(len(net.ropes), reds, blues))
        self.assertEqual(HOUSE.kind_total(great_tree(), 15, 15), kind_count(23, 15, 15))

    def test_errors_of_kind_totals(self):
        for net in RINGS + OTHERS + [great_net()]:
            for totals in ((1, 1), (-1, -1), (31, 0)):
                self.fails(lambda: HOUSE.kind_total(net, *totals), NotATree)
        for net in (Net(1, []), Net.row(3), great_tree()):
            self.fails(lambda: HOUSE.kind_total(net, -1, -2), BadCount, -1)
            self.fails(lambda: HOUSE.kind_total(net, 40, -2), BadCount, -2)
            self.fails(lambda: HOUSE.kind_total(net, 16, 15), TooMany, 30)

    def test_groups(self):
        done = 0
        for net in SMALL_NETS + CIRCLES:
            for reds, blues in ((0, 0), (1, 0), (0, 1), (1, 1), (3, 0), (2, 1)):
                if standing_count(net, reds, blues) <= 400:
                    found = HOUSE.groups(net, reds, blues)
                    self.assertEqual([[place_of(there) for there in kind] for kind in found],
                                     kinds_by(coloured_moves, net, reds, blues))
                    self.assertTrue(all(there.net == net for kind in found for there in kind))
                    done += 1
                else:
                    self.fails(lambda: HOUSE.groups(net, reds, blues), TooMany, 400)
        self.assertGreater(done, 60)

    def test_four_hundred_standings(self):
        # 2 ** m times the ways to place the guests: 2 * 20 * 10, 4 * 10 * 10, 8 * 5 * 10 and 16 * 5 * 5
        for net, reds, blues in ((Net.row(2), 19, 9), (Net.row(2), 9, 19), (Net.row(3), 3, 3),
                                 (Net(2, [(0, 1), (1, 0), (0, 1)]), 4, 9), (Net(2, [(0, 1)] * 4), 4, 4)):
            self.assertEqual(standing_count(net, reds, blues), 400)
            found = HOUSE.groups(net, reds, blues)
            self.assertEqual([[place_of(there) for there in kind] for kind in found],
                             kinds_by(coloured_moves, net, reds, blues))
        for net, reds, blues, count in ((Net.row(2), 11, 16, 408), (Net.row(2), 16, 11, 408),
                                        (Net(2, [(0, 1)] * 3), 2, 16, 408)):
            self.assertEqual(standing_count(net, reds, blues), count)
            self.fails(lambda: HOUSE.groups(net, reds, blues), TooMany, 400)
        for net in (great_net(), great_tree(), Net.row(9), Net.ring(9)):
            self.fails(lambda: HOUSE.groups(net, 1, 1), TooMany, 400)

    def test_errors_of_groups(self):
        for net in (Net.row(3), great_net()):
            self.fails(lambda: HOUSE.groups(net, -1, -2), BadCount, -1)
            self.fails(lambda: HOUSE.groups(net, 0, -2), BadCount, -2)
            self.fails(lambda: HOUSE.groups(net, 31, 0), TooMany, 30)

    def test_returned_groups_are_new(self):
        found = HOUSE.groups(Net.row(2), 1, 1)
        kept = [list(kind) for kind in found]
        found[0].clear()
        found.append("spoilt")
        self.assertEqual(HOUSE.groups(Net.row(2), 1, 1), kept)


if __name__ == "__main__":
    unittest.main()
