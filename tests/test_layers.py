"""Point 51: layers of a kind, and least numbers on any net; point 50 held against them."""

import unittest
from random import Random

from case import Case
from oracle import (CIRCLES, OTHERS, RINGS, SMALL_NETS, TREES, great_net, great_tree, kinds_of, moves, place_of,
                    places_with, small_kinds, some_place, standing_of, steps_from)
from twinrope.errors import OtherNet, TooMany
from twinrope.floors import floor_number
from twinrope.layers import layers_of, twin_number
from twinrope.least import least_number
from twinrope.nets import Net
from twinrope.plans import plan_of
from twinrope.rings import ring_number
from twinrope.standings import Standing
from twinrope.verdicts import can_take

JUST = [
    Standing(Net(5, [(0, 2), (1, 3), (1, 2), (2, 4), (0, 3), (2, 3)]), [1, 3, 1, 1, 1], [0, 2, 1, 1, 0],
             [0, 0, 0, 0, 0, 1]),
    Standing(Net(5, [(0, 3), (2, 3), (4, 0), (4, 1), (0, 4), (2, 4)]), [2, 1, 2, 1, 1], [0, 1, 1, 1, 1],
             [0, 0, 1, 1, 0, 1]),
]
ONE_MORE = [
    Standing(Net(8, [(2, 6), (4, 1), (0, 6), (5, 1), (3, 7), (2, 1), (5, 7), (0, 7)]), [0, 1, 2, 0, 1, 0, 0, 1],
             [0, 1, 0, 0, 1, 1, 0, 1], [1, 1, 0, 0, 0, 0, 0, 1]),
    Standing(Net(4, [(3, 0), (0, 2), (3, 1), (3, 1), (0, 3), (0, 3), (2, 1)]), [2, 2, 1, 0], [3, 2, 0, 2],
             [0, 1, 0, 1, 1, 1, 0]),
]


def searched(net, place):
    """The layers as lists of places, each in ascending order."""
    far = steps_from(net, place)
    layers = [[] for _ in range(max(far.values()) + 1)]
    for there in sorted(far):
        layers[far[there]].append(there)
    return layers


class Layers(Case):

    def test_all_kinds_of_small_nets(self):
        for net, kind in small_kinds(SMALL_NETS + CIRCLES, most=700):
            for place in (kind[0], kind[len(kind) // 2]):
                here = standing_of(net, place)
                found = layers_of(here)
                self.assertEqual([[place_of(there) for there in layer] for layer in found], searched(net, place))
                self.assertEqual(found[0], [here])
                for layer in found:
                    self.assertTrue(all(there.net == net for there in layer))
                    self.assertEqual(layer, sorted(layer, key=Standing.key))

    def test_by_hand(self):
        net = Net.row(2)
        here = Standing(net, [2, 0], [0, 0], [0])
        self.assertEqual(layers_of(here), [[here], [Standing(net, [1, 1], [0, 0], [1])]])
        alone = Standing(Net(1, []), [3], [4], [])
        self.assertEqual(layers_of(alone), [[alone]])
        still = Standing(Net.ring(3), [0] * 3, [0] * 3, [0, 1, 0])
        self.assertEqual(layers_of(still), [[still]])

    def test_just_three_thousand(self):
        for here in JUST:
            found = layers_of(here)
            self.assertEqual(sum(len(layer) for layer in found), 3000)
            self.assertEqual([[place_of(there) for there in layer] for layer in found],
                             searched(here.net, place_of(here)))
            last = found[-1][-1]
            self.assertEqual(twin_number(here, last), len(found) - 1)

    def test_more_than_three_thousand(self):
        for here in ONE_MORE:
            self.assertEqual(len(steps_from(here.net, place_of(here))), 3001)
            self.fails(lambda: layers_of(here), TooMany, 3000)
        rng = Random(50)
        for net in (great_net(), great_tree(), Net.ring(24), Net.row(24)):
            for totals in ((15, 15), (30, 0)):
                here = standing_of(net, some_place(net, *totals, rng))
                self.fails(lambda: layers_of(here), TooMany, 3000)
                self.fails(lambda: twin_number(here, here), TooMany, 3000)

    def test_no_other_limit_holds(self):
        # All but the first five ropes are dead.
        net = Net(24, [(k, k + 1) for k in range(23)] + [(k, k + 1) for k in range(5, 22)])
        here = Standing(net, [2, 1] + [0] * 22, [0] * 24, [0] * 5 + [1] * 18 + [1] * 17)
        self.assertEqual(len(net.ropes), 40)
        far = steps_from(net, place_of(here))
        self.assertEqual(len(far), 10)
        self.assertEqual([[place_of(there) for there in layer] for layer in layers_of(here)],
                         searched(net, place_of(here)))
        wide = Standing(great_net(), [0] * 24, [0] * 24, [0, 1] * 20)
        self.assertEqual(layers_of(wide), [[wide]])

    def test_returned_lists_are_new(self):
        here = Standing.gathered(Net.row(3), 1, 1)
        kept = [[place_of(there) for there in layer] for layer in layers_of(here)]
        found = layers_of(here)
        for layer in found:
            layer.clear()
        found.append("spoilt")
        self.assertEqual([[place_of(there) for there in layer] for layer in layers_of(here)], kept)
        self.assertEqual(place_of(here), ((1, 0, 0), (1, 0, 0), (0, 0)))


class TwinNumber(Case):

    def test_against_the_least_numbers_of_trees_and_rings(self):
        rng = Random(51)
        for nets, least in ((TREES, least_number), (RINGS, ring_number)):
            for net in nets:
                for totals in ((0, 0), (1, 0), (1, 1), (2, 1), (0, 3)):
                    for kind in rng.sample(kinds_of(net, *totals), 2 if net.ropes else 1):
                        first, second = (standing_of(net, rng.choice(kind)) for _ in range(2))
                        self.assertEqual(twin_number(first, second), least(first, second))

    def test_against_a_search_on_other_nets(self):
        rng = Random(52)
        for net in OTHERS + CIRCLES:
            for totals in ((0, 0), (1, 0), (1, 1), (2, 1)):
                places = places_with(net, *totals)
                for _ in range(4):
                    one = rng.choice(places)
                    far = steps_from(net, one)
                    for two in (rng.choice(places), rng.choice(sorted(far))):
                        first, second = standing_of(net, one), standing_of(net, two)
                        number = twin_number(first, second)
                        self.assertEqual(number, far.get(two))
                        if number is not None:
                            self.assertLessEqual(floor_number(first, second), number)
                            self.assertLessEqual(number, len(plan_of(first, second)))

    def test_there_is_no_row(self):
        net = Net.row(3)
        here = Standing(net, [1, 0, 0], [0, 0, 0], [0, 0])
        for there in (Standing(net, [0, 1, 0], [0, 0, 0], [0, 0]), Standing(net, [2, 0, 0], [0, 0, 0], [0, 0]),
                      Standing(net, [1, 0, 0], [1, 0, 0], [0, 0])):
            self.assertIsNone(twin_number(here, there))
        self.assertEqual(twin_number(here, here), 0)

    def test_too_many_whatever_the_second_is(self):
        for here in ONE_MORE:
            net = here.net
            empty = Standing(net, [0] * net.stations, [0] * net.stations, [0] * len(net.ropes))
            after = standing_of(net, moves(net, place_of(here))[0][1])
            for there in (here, after, empty):
                self.fails(lambda: twin_number(here, there), TooMany, 3000)
            self.assertIsNone(twin_number(empty, here))

    def test_other_nets(self):
        for here in JUST[:1] + ONE_MORE[:1]:
            for net in (Net.row(8), Net(1, []), great_net()):
                self.fails(lambda: twin_number(here, Standing.gathered(net, 1, 1)), OtherNet)

    def test_lengths_of_rows(self):
        # Point 50: rows of just so many rides, by the least number and its parity.
        rng = Random(53)
        for net in TREES + RINGS:
            for totals in ((1, 0), (1, 1), (0, 2)):
                first = standing_of(net, some_place(net, *totals, rng))
                rides = [ride for ride, _ in moves(net, place_of(first))]
                for layer in layers_of(first):
                    second = rng.choice(layer)
                    number = twin_number(first, second)
                    for count in range(number + 4):
                        fits = count >= number and (count - number) % 2 == 0 and (count == 0 or rides != [])
                        self.assertIs(can_take(first, second, count), fits)


if __name__ == "__main__":
    unittest.main()
