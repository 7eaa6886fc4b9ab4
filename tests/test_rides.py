"""Points 11 and 12: rides, walks and the ends of walks."""

import unittest
from random import Random

from case import FAR, Case
from oracle import SMALL_NETS, all_rides, great_net, moves, place_of, places_with, some_place, some_row, standing_of
from twinrope.errors import BrokenRow, NoColour, NoRide, NoRope
from twinrope.nets import Net
from twinrope.rides import after_ride, can_ride, end_of, rides_from, walk
from twinrope.standings import Standing
from twinrope.trips import Trip

WORDS = ("", "green", "Red", "RED", "red ", "r", "blues", "0")


class Rides(Case):

    def test_the_example(self):
        here = Standing(Net.row(3), [1, 0, 0], [0, 0, 1], [0, 1])
        self.assertEqual(end_of(here, (0, "red")).reds, (0, 1, 0))

    def test_one_ride_of_each_colour(self):
        here = Standing(Net(2, [(0, 1)]), [2, 0], [1, 3], [0])
        self.assertEqual(rides_from(here), [(0, "red"), (0, "blue")])
        self.assertEqual(place_of(after_ride(here, 0, "red")), ((1, 1), (1, 3), (1,)))
        self.assertEqual(place_of(after_ride(here, 0, "blue")), ((2, 0), (2, 2), (1,)))

    def test_a_guest_of_the_other_colour_does_not_ride(self):
        here = Standing(Net(2, [(0, 1)]), [0, 3], [3, 0], [0])
        self.assertEqual(rides_from(here), [])
        for colour in ("red", "blue"):
            self.assertIs(can_ride(here, 0, colour), False)
            self.fails(lambda: after_ride(here, 0, colour), NoRide, 0, colour)

    def check_rides(self, net, place):
        here = standing_of(net, place)
        expected = dict(moves(net, place))
        self.assertEqual(rides_from(here), list(expected))
        for rope, colour in all_rides(net):
            self.assertIs(can_ride(here, rope, colour), (rope, colour) in expected)
            if (rope, colour) not in expected:
                self.fails(lambda: after_ride(here, rope, colour), NoRide, rope, colour)
                continue
            there = after_ride(here, rope, colour)
            self.assertEqual(there, standing_of(net, expected[rope, colour]))
            self.assertIs(can_ride(there, rope, colour), True)
            self.assertEqual(after_ride(there, rope, colour), here)

    def test_each_ride_and_its_undoing(self):
        for net in SMALL_NETS:
            for totals in ((0, 0), (1, 0), (0, 1), (1, 1), (2, 1)):
                for place in places_with(net, *totals)[::5]:
                    self.check_rides(net, place)

    def test_rides_on_the_greatest_net(self):
        net, rng = great_net(), Random(1)
        for reds in (0, 1, 15, 30):
            self.check_rides(net, some_place(net, reds, 30 - reds, rng))

    def test_ropes_and_colours_that_do_not_exist(self):
        here = Standing(Net.row(3), [1, 0, 0], [0, 0, 1], [0, 1])
        for call in (can_ride, after_ride):
            for rope in (-1, 2, FAR, -FAR):
                self.fails(lambda: call(here, rope, "red"), NoRope, rope)
                self.fails(lambda: call(here, rope, "green"), NoRope, rope)
            for word in WORDS:
                self.fails(lambda: call(here, 1, word), NoColour, word)


class Walks(Case):

    def setUp(self):
        self.here = Standing(Net.row(3), [1, 0, 0], [0, 0, 1], [0, 0])
        self.good = [(0, "red"), (0, "red"), (1, "blue"), (1, "blue"), (0, "red")]

    def test_walk(self):
        for net in SMALL_NETS + [great_net()]:
            rng = Random(net.stations)
            for length in (0, 1, 2, 9, 40):
                rides, places = some_row(net, some_place(net, 3, 2, rng), length, rng)
                found = walk(standing_of(net, places[0]), rides)
                self.assertEqual([place_of(there) for there in found], places)
                self.assertEqual(found[0], standing_of(net, places[0]))
                last = end_of(standing_of(net, places[0]), *rides)
                self.assertEqual(last, standing_of(net, places[-1]))
                back = end_of(last, *rides, back=True)
                self.assertEqual(back, standing_of(net, places[0]))

    def test_the_empty_row(self):
        self.assertEqual(walk(self.here, []), [self.here])
        self.assertEqual(end_of(self.here), self.here)
        self.assertEqual(end_of(self.here, back=True), self.here)

    def test_not_back(self):
        self.assertEqual(end_of(self.here, *self.good, back=False), walk(self.here, self.good)[-1])

    def test_a_trip_is_a_row(self):
        self.assertEqual(walk(self.here, Trip(self.good)), walk(self.here, self.good))

    def test_rows_that_break(self):
        for at in (0, 2, 5):
            bad = (1, "red")
            rides = self.good[:at] + [bad] + self.good[at:]
            if at == 5:
                rides[5] = bad = (0, "blue")
            self.fails(lambda: walk(self.here, rides), BrokenRow, at, *bad)
            self.fails(lambda: end_of(self.here, *rides), BrokenRow, at, *bad)
            self.fails(lambda: end_of(self.here, *rides[::-1], back=True), BrokenRow, at, *bad)

    def test_a_step_that_becomes_impossible(self):
        self.assertTrue(can_ride(self.here, 0, "red"))
        one = Standing(Net.row(2), [1, 0], [0, 0], [0])
        self.fails(lambda: walk(one, [(0, "red"), (0, "blue")]), BrokenRow, 1, 0, "blue")
        two = Standing(Net(2, [(0, 1), (0, 1)]), [1, 0], [0, 0], [0, 0])
        self.fails(lambda: walk(two, [(0, "red"), (1, "red"), (0, "red")]), BrokenRow, 1, 1, "red")

    def test_the_first_broken_step_is_told(self):
        rides = [(0, "red"), (0, "blue"), (1, "red")]
        self.fails(lambda: walk(self.here, rides), BrokenRow, 1, 0, "blue")
        self.fails(lambda: end_of(self.here, *rides), BrokenRow, 1, 0, "blue")
        self.fails(lambda: end_of(self.here, *rides, back=True), BrokenRow, 0, 1, "red")

    def test_back_counts_from_the_last(self):
        rides = [(1, "red"), (0, "red"), (1, "blue")]
        self.fails(lambda: end_of(self.here, *rides, back=True), BrokenRow, 2, 1, "red")

    def test_unknown_ropes_and_colours_come_before_any_ride(self):
        broken = (1, "red")
        for at in range(3):
            for bad, error, value in (((2, "red"), NoRope, 2), ((-1, "green"), NoRope, -1),
                                      ((FAR, "red"), NoRope, FAR), ((0, "green"), NoColour, "green")):
                rides = [broken] * at + [bad] + [broken] * (2 - at)
                self.fails(lambda: walk(self.here, rides), error, value)
                self.fails(lambda: end_of(self.here, *rides), error, value)
                self.fails(lambda: end_of(self.here, *rides, back=True), error, value)

    def test_the_first_of_two_unknown_decides(self):
        rides = [(0, "green"), (7, "red")]
        self.fails(lambda: walk(self.here, rides), NoColour, "green")
        self.fails(lambda: end_of(self.here, *rides), NoColour, "green")
        self.fails(lambda: end_of(self.here, *rides, back=True), NoColour, "green")
        rides = [(7, "red"), (0, "green")]
        self.fails(lambda: walk(self.here, rides), NoRope, 7)
        self.fails(lambda: end_of(self.here, *rides), NoRope, 7)
        self.fails(lambda: end_of(self.here, *rides, back=True), NoRope, 7)

    def test_five_thousand_rides(self):
        net, rng = great_net(), Random(3)
        rides, places = some_row(net, some_place(net, 15, 15, rng), 5000, rng)
        here = standing_of(net, places[0])
        found = walk(here, rides)
        self.assertEqual(len(found), 5001)
        self.assertEqual([place_of(there) for there in found], places)
        self.assertEqual(end_of(here, *rides), found[-1])
        self.assertEqual(end_of(found[-1], *rides, back=True), here)
        impossible = [ride for ride in all_rides(net) if not can_ride(found[4999], *ride)][0]
        self.fails(lambda: walk(here, rides[:4999] + [impossible]), BrokenRow, 4999, *impossible)


if __name__ == "__main__":
    unittest.main()
