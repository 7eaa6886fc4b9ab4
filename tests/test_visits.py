"""Point 23: rows that bring a guest to a station or run a rope."""

import unittest
from random import Random

from case import FAR, Case
from oracle import (great_net, guests_somewhere, meets, place_of, ropes_that_run, shortest_meeting, small_kinds,
                    some_place, standing_of)
from twinrope.arrows import dead_stations, live_ropes
from twinrope.errors import Dead, NoRope, NoStation, Still
from twinrope.nets import Net
from twinrope.rides import end_of
from twinrope.standings import Standing
from twinrope.visits import run_rope, visit_row


class Visits(Case):

    def check_visit(self, here, station):
        row = visit_row(here, station)
        self.assertIsInstance(row, list)
        self.assertLessEqual(len(row), 3 * here.net.stations)
        there = end_of(here, *row)
        self.assertGreater(there.reds[station] + there.blues[station], 0)
        if here.reds[station] + here.blues[station] > 0:
            self.assertEqual(row, [])

    def check_run(self, here, rope):
        row = run_rope(here, rope)
        self.assertIsInstance(row, list)
        self.assertLessEqual(len(row), 3 * here.net.stations + 1)
        self.assertEqual([at for at, ride in enumerate(row) if ride[0] == rope], [len(row) - 1])
        there = end_of(here, *row)
        self.assertNotEqual(there.cars[rope], here.cars[rope])

    def check(self, here, alive, live):
        for station in range(here.net.stations):
            if station in alive:
                self.check_visit(here, station)
            else:
                self.fails(lambda: visit_row(here, station), Dead, station)
        for rope in range(len(here.net.ropes)):
            if rope in live:
                self.check_run(here, rope)
            else:
                self.fails(lambda: run_rope(here, rope), Still, rope)

    def test_against_all_alike_standings(self):
        for net, kind in small_kinds():
            alive, live = guests_somewhere(kind), ropes_that_run(net, kind)
            for place in kind[::1 + len(kind) // 3]:
                self.check(standing_of(net, place), alive, live)

    def test_a_guest_is_there_already(self):
        here = Standing(Net.row(3), [1, 0, 0], [0, 0, 1], [0, 0])
        self.assertEqual((visit_row(here, 0), visit_row(here, 2)), ([], []))

    def test_two_guests_that_have_to_meet_first(self):
        here = Standing(Net.row(4), [1, 0, 0, 0], [0, 1, 0, 0], [0, 1, 1])
        self.check(here, range(4), range(3))
        there = Standing(Net.row(9), [1] + [0] * 8, [0, 1] + [0] * 7, [0] + [1] * 7)
        self.check(there, range(9), range(8))
        long = Standing(Net.row(24), [1] + [0] * 23, [0] * 11 + [1] + [0] * 12, [0] * 11 + [1] * 12)
        self.check(long, range(24), range(23))

    def test_one_station(self):
        self.assertEqual(visit_row(Standing(Net(1, []), [0], [1], []), 0), [])
        self.fails(lambda: visit_row(Standing(Net(1, []), [0], [0], []), 0), Dead, 0)

    def test_stations_and_ropes_that_do_not_exist(self):
        for reds in ([1, 0, 0], [0, 0, 0]):
            here = Standing(Net.row(3), reds, [0, 0, 0], [0, 0])
            for station in (-1, 3, FAR, -FAR):
                self.fails(lambda: visit_row(here, station), NoStation, station)
            for rope in (-1, 2, FAR, -FAR):
                self.fails(lambda: run_rope(here, rope), NoRope, rope)

    def test_the_greatest_net(self):
        net, rng = great_net(), Random(11)
        met = set()
        for totals in ((15, 15), (30, 0), (0, 30), (1, 1), (1, 1), (2, 1), (0, 0), (1, 1)):
            place = some_place(net, *totals, rng)
            here = standing_of(net, place)
            meet = shortest_meeting(net, place) is not None
            met.add(meet)
            dead, live = dead_stations(here), live_ropes(here)
            self.assertFalse(meet and dead)
            self.check(here, [station for station in range(24) if station not in dead], live)
            self.assertEqual(place_of(here), place)
        self.assertEqual(met, {True, False})

    def test_meeting_kinds_are_among_the_small_ones(self):
        self.assertEqual({meets(kind) for _, kind in small_kinds(totals=[(1, 1)], most=200)}, {True, False})


if __name__ == "__main__":
    unittest.main()
