"""Point 63: rides of which only the ropes were heard."""

import unittest
from itertools import product
from random import Random

from case import FAR, Case
from oracle import (CIRCLES, COLOURS, SMALL_NETS, great_net, great_tree, moves, place_of, places_with, some_place,
                    some_row, standing_of, walked)
from twinrope.errors import NoFit, NoRope, NoStation, OtherNet, TooMany
from twinrope.heard import heard_balance, heard_count, heard_ends, heard_first, heard_reds, heard_to
from twinrope.nets import Net
from twinrope.standings import Standing

GREAT = [great_net(), great_tree(), Net.ring(24), Net.row(24)]


def fits_of(net, place, ropes):
    """All pairs (fit, last place), red before blue, by trying every list of colours."""
    found = []
    for colours in product(COLOURS, repeat=len(ropes)):
        there = walked(net, place, list(zip(ropes, colours)))
        if there is not None:
            found.append((list(colours), there))
    return found


def broken_at(net, place, ropes):
    return min(step for step in range(len(ropes)) if not fits_of(net, place, ropes[:step + 1]))


class Heard(Case):

    def check(self, net, place, ropes):
        here = standing_of(net, place)
        fits = fits_of(net, place, ropes)
        heard = list(ropes)
        self.assertEqual(heard_count(here, heard), len(fits))
        entries = [lambda: heard_first(here, heard), lambda: heard_ends(here, heard),
                   lambda: heard_balance(here, heard)]
        entries += [lambda station=station: heard_reds(here, heard, station) for station in range(net.stations)]
        if not fits:
            for entry in entries:
                self.fails(entry, NoFit, broken_at(net, place, ropes))
            self.assertEqual(heard_to(here, heard, here), 0)
            return False
        ends = sorted({there for _, there in fits})
        self.assertEqual(heard_first(here, heard), fits[0][0])
        self.assertEqual([place_of(there) for there in heard_ends(here, heard)], ends)
        self.assertEqual(len({there[2] for there in ends}), 1)
        for there in ends:
            balance = [red - blue for red, blue in zip(there[0], there[1])]
            self.assertEqual(heard_balance(here, heard), balance)
            self.assertEqual(heard_to(here, heard, standing_of(net, there)),
                             len([1 for _, end in fits if end == there]))
        for station in range(net.stations):
            reds = [there[0][station] for there in ends]
            self.assertEqual(heard_reds(here, heard, station), (min(reds), max(reds)))
        self.assertEqual((heard, place_of(here)), (list(ropes), place))
        return True

    def test_small_nets(self):
        rng = Random(63)
        done = [0, 0]
        for net in SMALL_NETS[1:] + CIRCLES:
            for totals in ((0, 0), (1, 0), (1, 1), (2, 2), (3, 3)):
                for length in (0, 1, 2, 3, 5, 6):
                    place = some_place(net, *totals, rng)
                    guessed = [rng.randrange(len(net.ropes)) for _ in range(length)]
                    ridden = [rope for rope, _ in some_row(net, place, length, rng)[0]]
                    for ropes in (guessed, ridden):
                        done[self.check(net, place, ropes)] += 1
        self.assertGreater(min(done), 100)

    def test_great_nets(self):
        rng = Random(64)
        for net in GREAT:
            for totals in ((15, 15), (30, 0), (1, 29)):
                place = some_place(net, *totals, rng)
                self.check(net, place, [rope for rope, _ in some_row(net, place, 7, rng)[0]])

    def test_twelve_ropes(self):
        # On two stations with guests of both colours at both ends each list of colours is a fit.
        net = Net(2, [(0, 1)])
        here = Standing(net, [6, 6], [6, 6], [0])
        self.assertEqual(heard_count(here, [0] * 12), 4096)
        self.assertEqual(heard_first(here, [0] * 12), ["red"] * 12)
        self.assertEqual(heard_reds(here, [0] * 12, 0), (0, 12))
        # Twelve ropes side by side, each used once: eight reds and seven blues wait where all their cars are.
        net = Net(24, [(0, 1)] * 17 + [(k, k + 1) for k in range(23)])
        here = Standing(net, [8, 0] + [0] * 22, [0, 7] + [0] * 22, [0] * 40)
        fits = [fit for fit in product(COLOURS, repeat=12) if fit.count("red") <= 8 and fit.count("blue") <= 7]
        ropes = list(range(12))
        self.assertEqual(heard_count(here, ropes), len(fits))
        self.assertEqual(heard_first(here, ropes), list(fits[0]))
        self.assertEqual(len(heard_ends(here, ropes)), 4)
        self.assertEqual(heard_reds(here, ropes, 0), (0, 3))
        self.assertEqual(heard_reds(here, ropes, 1), (5, 8))

    def test_long_rows_on_great_nets(self):
        rng = Random(65)
        for net in GREAT:
            place = some_place(net, 15, 15, rng)
            rides, places = some_row(net, place, 12, rng)
            here = standing_of(net, place)
            ropes = [rope for rope, _ in rides]
            count = heard_count(here, ropes)
            ends = heard_ends(here, ropes)
            self.assertIn(standing_of(net, places[-1]), ends)
            self.assertEqual(count, sum(heard_to(here, ropes, there) for there in ends))
            first = heard_first(here, ropes)
            self.assertIn(standing_of(net, walked(net, place, list(zip(ropes, first)))), ends)
            for step, (rope, colour) in enumerate(rides):
                # Red is tried first, so the least fit is not behind the one that was ridden.
                if first[step] != colour:
                    self.assertEqual((rope, first[step], colour), (ropes[step], "red", "blue"))
                    break

    def test_no_rope_at_all(self):
        for net in SMALL_NETS + GREAT:
            here = Standing.gathered(net, 2, 1)
            self.assertEqual((heard_count(here, []), heard_first(here, []), heard_ends(here, [])), (1, [], [here]))
            self.assertEqual(heard_balance(here, []), [1] + [0] * (net.stations - 1))
            self.assertEqual(heard_reds(here, [], 0), (2, 2))
            self.assertEqual(heard_to(here, [], here), 1)
            self.assertEqual(heard_to(here, [], Standing.gathered(net, 2, 2)), 0)

    def test_a_goal_that_is_no_end(self):
        net = Net.row(3)
        here = Standing(net, [1, 0, 0], [1, 0, 0], [0, 0])
        for place in places_with(net, 1, 1) + places_with(net, 2, 1):
            wanted = len([1 for _, there in fits_of(net, place_of(here), [0, 0]) if there == place])
            self.assertEqual(heard_to(here, [0, 0], standing_of(net, place)), wanted)

    def test_no_fit_and_its_step(self):
        net = Net.row(3)
        here = Standing(net, [1, 0, 0], [0, 0, 0], [0, 0])
        for ropes, step in (([1], 0), ([0, 0, 1], 2), ([0, 1, 1, 1, 0], 4), ([0, 1, 0, 1], 2), ([1, 0], 0)):
            self.assertEqual(heard_count(here, ropes), 0)
            self.assertEqual(heard_to(here, ropes, here), 0)
            for entry in (lambda: heard_first(here, ropes), lambda: heard_ends(here, ropes),
                          lambda: heard_balance(here, ropes), lambda: heard_reds(here, ropes, 0)):
                self.fails(entry, NoFit, step)

    def test_a_colour_that_only_a_later_rope_shows(self):
        # Either guest may have taken the first rope, but only the red one can go on.
        net = Net.row(3)
        here = Standing(net, [1, 0, 0], [0, 1, 0], [0, 0])
        self.assertEqual(heard_count(here, [0]), 2)
        self.assertEqual((heard_first(here, [0]), heard_first(here, [0, 1])), (["red"], ["red", "red"]))
        # Here it is the blue one.
        there = Standing(net, [0, 1, 0], [1, 0, 0], [1, 1])
        self.assertEqual(heard_count(there, [0]), 2)
        self.assertEqual((heard_first(there, [0]), heard_first(there, [0, 1])), (["red"], ["blue", "blue"]))

    def test_order_of_errors(self):
        here = Standing(Net.row(3), [1, 0, 0], [0, 0, 0], [0, 0])
        other = Standing.gathered(Net.row(2), 1, 0)
        entries = [lambda ropes: heard_count(here, ropes), lambda ropes: heard_first(here, ropes),
                   lambda ropes: heard_ends(here, ropes), lambda ropes: heard_balance(here, ropes),
                   lambda ropes: heard_reds(here, ropes, 0), lambda ropes: heard_reds(here, ropes, 9),
                   lambda ropes: heard_to(here, ropes, here)]
        for entry in entries:
            for rope in (-1, 2, FAR, -FAR):
                self.fails(lambda: entry([rope]), NoRope, rope)
                self.fails(lambda: entry([1, 1, rope, 7]), NoRope, rope)
                self.fails(lambda: entry([0] * 20 + [rope]), NoRope, rope)
            for many in (13, 14, 5000):
                self.fails(lambda: entry([0] * many), TooMany, 12)
                self.fails(lambda: entry([1] * many), TooMany, 12)
        for station in (-1, 3, FAR):
            self.fails(lambda: heard_reds(here, [1], station), NoStation, station)
        for ropes in ([], [9], [0] * 13, [1]):
            self.fails(lambda: heard_to(here, ropes, other), OtherNet)
        self.assertEqual(heard_count(here, [0] * 12), 1)

    def test_returned_lists_are_new(self):
        here = Standing.gathered(Net.row(3), 1, 1)
        for entry in (heard_first, heard_ends, heard_balance):
            kept = list(entry(here, [0, 0]))
            entry(here, [0, 0]).append("spoilt")
            self.assertEqual(entry(here, [0, 0]), kept)


class Promises(Case):

    def test_each_walk_of_a_fit_is_a_row(self):
        rng = Random(66)
        for net in SMALL_NETS[1:]:
            place = some_place(net, 2, 2, rng)
            for (rope, _), after in moves(net, place):
                self.assertIn(standing_of(net, after), heard_ends(standing_of(net, place), [rope]))


if __name__ == "__main__":
    unittest.main()
