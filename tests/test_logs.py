"""Point 64: logs with a wrong line."""

import unittest
from random import Random

from case import FAR, Case
from oracle import (CIRCLES, SMALL_NETS, all_rides, great_net, great_tree, moves, place_of, some_place, some_row,
                    standing_of, walked)
from twinrope.errors import NoColour, NoRope, OtherNet, TooMany
from twinrope.logs import deletes, inserts, log_holds, mends, odd_ropes
from twinrope.nets import Net
from twinrope.standings import Standing

ENTRIES = [log_holds, odd_ropes, mends, inserts, deletes]


def leads(net, one, rides, two):
    return walked(net, one, rides) == two


class Logs(Case):

    def check(self, net, one, rides, two):
        """Every change is tried; returns how many of each kind put the log right."""
        first, second = standing_of(net, one), standing_of(net, two)
        log = list(rides)
        steps = range(len(rides))
        mended = [(step, ride) for step in steps for ride in all_rides(net)
                  if ride != rides[step] and leads(net, one, rides[:step] + [ride] + rides[step + 1:], two)]
        inserted = [(place, ride) for place in range(len(rides) + 1) for ride in all_rides(net)
                    if leads(net, one, rides[:place] + [ride] + rides[place:], two)]
        deleted = [step for step in steps if leads(net, one, rides[:step] + rides[step + 1:], two)]
        odd = [rope for rope in range(len(net.ropes))
               if (sum(1 for r, _ in rides if r == rope) + one[2][rope] + two[2][rope]) % 2]
        self.assertIs(log_holds(first, second, log), leads(net, one, rides, two))
        self.assertEqual(odd_ropes(first, second, log), odd)
        self.assertEqual(mends(first, second, log), mended)
        self.assertEqual(inserts(first, second, log), inserted)
        self.assertEqual(deletes(first, second, log), deleted)
        self.assertEqual((log, place_of(first), place_of(second)), (rides, one, two))
        for found, most in ((mended, 2), (inserted, 1), (deleted, 1)):
            self.assertTrue(not found or len(odd) <= most)
        return len(mended), len(inserted), len(deleted)

    def logs_of(self, net, place, length, rng):
        """Logs that hold, that lack a ride, that have one too many and with one wrong ride."""
        rides, places = some_row(net, place, length, rng)
        at = rng.randrange(len(rides) + 1)
        wrong = rng.choice(all_rides(net))
        found = [rides, rides[:at] + rides[at + 1:], rides[:at] + [wrong] + rides[at:],
                 rides[:at] + [wrong] + rides[at + 1:]]
        if at < len(rides):
            rope, colour = rides[at]
            found.append(rides[:at] + [(rope, "blue" if colour == "red" else "red")] + rides[at + 1:])
        return found, places[-1]

    def test_small_nets(self):
        rng = Random(64)
        sums = [0, 0, 0]
        for net in SMALL_NETS[1:] + CIRCLES:
            for totals in ((0, 0), (1, 0), (1, 1), (2, 2)):
                for length in (0, 1, 2, 5, 8):
                    place = some_place(net, *totals, rng)
                    logs, last = self.logs_of(net, place, length, rng)
                    for rides in logs:
                        found = self.check(net, place, rides, last)
                        sums = [many + more for many, more in zip(sums, found)]
        self.assertGreater(min(sums), 200)

    def test_one_station(self):
        net = Net(1, [])
        place = (2,), (1,), ()
        self.check(net, place, [], place)
        self.check(net, place, [], ((1,), (1,), ()))

    def test_by_hand(self):
        net = Net.row(3)
        first = Standing(net, [1, 0, 0], [0, 0, 0], [0, 0])
        second = Standing(net, [0, 0, 1], [0, 0, 0], [1, 1])
        go, on = (0, "red"), (1, "red")
        self.assertIs(log_holds(first, second, [go, on]), True)
        self.assertEqual(odd_ropes(first, second, [go, on]), [])
        self.assertEqual((mends(first, second, [go, on]), deletes(first, second, [go, on])), ([], []))
        self.assertEqual(odd_ropes(first, second, [go]), [1])
        self.assertEqual(inserts(first, second, [go]), [(1, on)])
        self.assertEqual(inserts(first, second, [on]), [(0, go)])
        self.assertEqual(deletes(first, second, [go, on, on]), [1, 2])
        self.assertEqual(mends(first, second, [go, go]), [(1, on)])
        self.assertEqual(mends(first, second, [go, (1, "blue")]), [(1, on)])
        self.assertEqual(odd_ropes(first, second, [go, (1, "blue")]), [])
        self.assertEqual(odd_ropes(first, second, [go, go]), [0, 1])
        self.assertEqual(inserts(first, second, []), [])

    def test_a_log_that_breaks_twice(self):
        # Before the middle the row cannot be walked, and behind it nothing leads to the end.
        here = Standing(Net.row(3), [1, 0, 0], [0, 0, 0], [0, 0])
        rides = [(1, "red"), (0, "red"), (1, "red")]
        for entry in (mends, inserts, deletes):
            self.assertEqual(entry(here, here, rides), [])
        self.assertIs(log_holds(here, here, rides), False)

    def test_every_place_that_gives_the_same_row(self):
        net = Net.row(2)
        first, second = (Standing(net, [1, 0], [0, 0], [0]), Standing(net, [0, 1], [0, 0], [1]))
        ride = (0, "red")
        self.assertEqual(inserts(first, second, [ride, ride]), [(0, ride), (1, ride), (2, ride)])
        self.assertEqual(deletes(first, first, [ride] * 3), [0, 1, 2])
        self.assertEqual(deletes(first, second, [ride] * 4), [0, 1, 2, 3])
        self.assertEqual(inserts(first, second, []), [(0, ride)])
        self.assertEqual(deletes(first, first, [ride]), [0])

    def test_sixty_rides_and_more(self):
        rng = Random(65)
        for net in (great_net(), great_tree(), Net.ring(24)):
            for totals in ((15, 15), (1, 0), (2, 2)):
                place = some_place(net, *totals, rng)
                rides, places = some_row(net, place, 60, rng)
                if len(rides) < 60:
                    continue
                first, second = standing_of(net, place), standing_of(net, places[-1])
                self.assertIs(log_holds(first, second, rides), True)
                at = rng.randrange(60)
                wrong = rng.choice([ride for ride in all_rides(net) if ride != rides[at]])
                self.assertIn((at, rides[at]), mends(first, second, rides[:at] + [wrong] + rides[at + 1:]))
                self.assertIn((at, rides[at]), inserts(first, second, rides[:at] + rides[at + 1:]))
                short = standing_of(net, walked(net, place, rides[:59]))
                self.assertIn(59, deletes(first, short, rides))
                for entry in ENTRIES:
                    self.fails(lambda: entry(first, second, rides + rides[:1]), TooMany, 60)
                    self.fails(lambda: entry(first, second, rides * 80), TooMany, 60)

    def test_long_logs_with_every_change_tried(self):
        rng = Random(66)
        net = Net.ring(4)
        place = some_place(net, 2, 2, rng)
        logs, last = self.logs_of(net, place, 55, rng)
        for rides in logs:
            self.check(net, place, rides, last)

    def test_ropes_that_are_wrong(self):
        # If a ride over one rope stands for one over another rope, just these two are odd.
        rng = Random(67)
        for net in SMALL_NETS[3:]:
            place = some_place(net, 2, 2, rng)
            rides, places = some_row(net, place, 10, rng)
            first, second = standing_of(net, place), standing_of(net, places[-1])
            for at, (rope, _) in enumerate(rides):
                for other in range(len(net.ropes)):
                    log = rides[:at] + [(other, "red")] + rides[at + 1:]
                    self.assertEqual(odd_ropes(first, second, log), sorted({rope, other}) if other != rope else [])
                self.assertEqual(odd_ropes(first, second, rides[:at] + rides[at + 1:]), [rope])

    def test_order_of_errors(self):
        here, there = Standing.gathered(Net.row(3), 1, 1), Standing.gathered(Net.row(2), 1, 1)
        for entry in ENTRIES:
            for rides in ([], [(9, "green")], [(0, "red")] * 61):
                self.fails(lambda: entry(here, there, rides), OtherNet)
            for rope in (-1, 2, FAR):
                self.fails(lambda: entry(here, here, [(0, "red"), (rope, "green")]), NoRope, rope)
                self.fails(lambda: entry(here, here, [(0, "red")] * 70 + [(rope, "red")]), NoRope, rope)
            for word in ("", "green", "both"):
                self.fails(lambda: entry(here, here, [(1, word), (9, "red")]), NoColour, word)
                self.fails(lambda: entry(here, here, [(1, "red")] * 61 + [(1, word)]), NoColour, word)
            self.fails(lambda: entry(here, here, [(1, "red")] * 61), TooMany, 60)

    def test_returned_lists_are_new(self):
        here = Standing.gathered(Net.row(2), 1, 1)
        place = place_of(here)
        for ride, _ in moves(here.net, place):
            for entry in ENTRIES[1:]:
                kept = list(entry(here, here, [ride]))
                entry(here, here, [ride]).append("spoilt")
                self.assertEqual(entry(here, here, [ride]), kept)


if __name__ == "__main__":
    unittest.main()
