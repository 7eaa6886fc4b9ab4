"""Points 21 and 22: marks and what they show."""

import unittest
from itertools import combinations
from random import Random

from case import FAR, Case
from oracle import (SMALL_NETS, arrows_at, closure, great_net, guests_somewhere, meets, ropes_that_run,
                    shortest_meeting, small_kinds, some_place, some_row, standing_of, where)
from twinrope.errors import CanMeet, NoRope, NoStation
from twinrope.marks import Marks, border_holds, dead_by, marks_hold, marks_of, still_by
from twinrope.nets import Net
from twinrope.standings import Standing


def subsets(stations):
    return [list(part) for size in range(len(stations) + 1) for part in combinations(stations, size)]


def really_hold(net, place, red_side, blue_side):
    reds, blues = set(red_side), set(blue_side)
    arrows = arrows_at(net, place)
    return (reds | blues <= set(range(net.stations)) and not reds & blues
            and set(where(place[0])) <= reds and set(where(place[1])) <= blues
            and not [1 for start, end in arrows if start in reds and end not in reds]
            and not [1 for start, end in arrows if start not in blues and end in blues])


class MarksAsValues(Case):

    def test_sides(self):
        marks = Marks([3, 1, 3, -7, 1], [FAR, 0])
        self.assertEqual((marks.red_side, marks.blue_side), ((-7, 1, 3), (0, FAR)))
        self.assertIsInstance(marks.red_side, tuple)
        self.assertIsInstance(marks.blue_side, tuple)
        self.assertEqual((Marks([], []).red_side, Marks([], []).blue_side), ((), ()))
        self.assertEqual(Marks([], [5, 5, 4]).blue_side, (4, 5))

    def test_equality(self):
        self.assertTrue(Marks([1, 2], [3]) == Marks([2, 1, 1], [3, 3]))
        self.assertFalse(Marks([1, 2], [3]) != Marks([2, 1], [3]))
        for other in (Marks([1], [3]), Marks([1, 2], []), Marks([3], [1, 2]), Marks([1, 2], [4]), Marks([1, 2, 3], [3])):
            self.assertFalse(Marks([1, 2], [3]) == other)
            self.assertTrue(Marks([1, 2], [3]) != other)

    def test_both(self):
        one, two = Marks([1, 2, 5], [0, 3, 9]), Marks([5, 7, 2], [3, 4, 0])
        self.assertEqual(one & two, Marks([2, 5], [0, 3]))
        self.assertEqual(two & one, one & two)
        self.assertEqual(one & one, one)
        self.assertEqual(Marks([1], [2]) & Marks([2], [1]), Marks([], []))
        self.assertEqual((one.red_side, two.blue_side), ((1, 2, 5), (0, 3, 4)))

    def test_within(self):
        one = Marks([1, 2], [5])
        for other in (one, Marks([0, 1, 2], [5]), Marks([1, 2], [5, -6]), Marks([2, 1, 9], [4, 5])):
            self.assertIs(one.within(other), True)
        for other in (Marks([1], [5]), Marks([1, 2], []), Marks([5], [1, 2]), Marks([1, 3], [5]), Marks([1, 2], [4, 6])):
            self.assertIs(one.within(other), False)
        self.assertIs(Marks([], []).within(one), True)
        self.assertIs(one.within(Marks([], [])), False)


class Holding(Case):

    def setUp(self):
        self.net = Net.row(4)
        self.here = Standing(self.net, [1, 0, 0, 0], [0, 0, 0, 1], [0, 1, 0])

    def test_one_standing(self):
        self.assertIs(marks_hold(self.here, Marks([0, 1], [2, 3])), True)

    def test_each_fault_on_its_own(self):
        for sides in (([0, 1, 4], [2, 3]), ([0, 1, -1], [2, 3]), ([0, 1], [2, 3, 4]), ([0, 1], [2, 3, FAR]),
                      ([0, 1], [2, 3, -1]), ([1], [2, 3]), ([0, 1], [2]), ([0, 1], []), ([], [2, 3]),
                      ([0, 1, 3], [2, 3]), ([0], [2, 3]), ([0, 1], [3])):
            self.assertIs(marks_hold(self.here, Marks(*sides)), False)

    def test_guests_outside_of_their_side(self):
        alone = Standing(Net(1, []), [1], [0], [])
        self.assertIs(marks_hold(alone, Marks([0], [])), True)
        self.assertIs(marks_hold(alone, Marks([], [])), False)
        self.assertIs(marks_hold(alone, Marks([], [0])), False)
        self.assertIs(marks_hold(~alone, Marks([], [0])), True)
        self.assertIs(marks_hold(~alone, Marks([], [])), False)

    def test_arrows_out_of_the_red_side_and_into_the_blue_side(self):
        empty = Standing(self.net, [0] * 4, [0] * 4, [0, 0, 0])
        self.assertIs(marks_hold(empty, Marks([2, 3], [])), True)
        self.assertIs(marks_hold(empty, Marks([1, 2], [])), False)
        self.assertIs(marks_hold(empty, Marks([], [0, 1])), True)
        self.assertIs(marks_hold(empty, Marks([], [1, 2])), False)
        self.assertIs(marks_hold(empty, Marks([3], [0])), True)
        self.assertIs(marks_hold(empty, Marks([0], [3])), False)

    def test_all_marks_on_small_nets(self):
        rng = Random(7)
        for net in SMALL_NETS:
            if net.stations > 3:
                continue
            sides = subsets(range(net.stations))
            for totals in ((0, 0), (1, 0), (0, 1), (1, 1)):
                for _ in range(3):
                    place = some_place(net, *totals, rng)
                    here = standing_of(net, place)
                    for reds in sides:
                        for blues in sides:
                            found = marks_hold(here, Marks(reds, blues))
                            self.assertIs(found, really_hold(net, place, reds, blues))

    def test_what_holds_for_a_whole_kind(self):
        for net, kind in small_kinds(totals=[(0, 0), (1, 0), (1, 1), (2, 1)], most=400):
            sides = [Marks(reds, blues) for reds in subsets(range(net.stations)) for blues in ([], [0], [1, 2])]
            if not meets(kind):
                sides.append(marks_of(standing_of(net, kind[0])))
            for marks in sides:
                found = {marks_hold(standing_of(net, place), marks) for place in kind[:25]}
                self.assertEqual(len(found), 1)
                self.assertFalse(found == {True} and meets(kind))

    def test_both_hold_together(self):
        here = Standing(Net.row(5), [0, 0, 1, 0, 0], [0] * 5, [0, 1, 1, 0])
        sides = [Marks(reds, blues) for reds in subsets(range(5)) for blues in subsets(range(5))]
        holding = [marks for marks in sides if marks_hold(here, marks)]
        self.assertGreater(len(holding), 3)
        for one in holding:
            for two in holding:
                self.assertIs(marks_hold(here, one & two), True)


class MarksOfStandings(Case):

    def test_the_error(self):
        here = Standing(Net.row(3), [0, 2, 0], [0, 1, 1], [0, 0])
        self.fails(lambda: marks_of(here), CanMeet, 1)
        there = Standing(Net.row(3), [0, 2, 0], [0, 0, 1], [0, 0])
        self.fails(lambda: marks_of(there), CanMeet, 1)

    def check(self, net, place):
        here = standing_of(net, place)
        way = shortest_meeting(net, place)
        if way is not None:
            self.fails(lambda: marks_of(here), CanMeet, way[0])
            return None
        arrows = arrows_at(net, place)
        marks = marks_of(here)
        self.assertIsInstance(marks, Marks)
        self.assertEqual(list(marks.red_side), closure(where(place[0]), arrows))
        self.assertEqual(list(marks.blue_side), closure(where(place[1]), [(end, start) for start, end in arrows]))
        self.assertIs(marks_hold(here, marks), True)
        return marks

    def test_small_nets(self):
        rng = Random(8)
        for net in SMALL_NETS:
            sides = subsets(range(net.stations)) if net.stations < 4 else []
            for totals in ((0, 0), (1, 0), (0, 1), (1, 1), (2, 1)):
                place = some_place(net, *totals, rng)
                marks = self.check(net, place)
                every = [Marks(reds, blues) for reds in sides for blues in sides]
                for other in every:
                    if marks_hold(standing_of(net, place), other):
                        self.assertTrue(marks.within(other))

    def test_the_greatest_net(self):
        net, rng = great_net(), Random(9)
        for totals in ((30, 0), (0, 30), (0, 0), (1, 1), (1, 1), (1, 1), (15, 15), (1, 2)):
            rides, places = some_row(net, some_place(net, *totals, rng), 50, rng)
            marks = self.check(net, places[0])
            if marks is not None:
                self.assertIs(marks_hold(standing_of(net, places[-1]), marks), True)


class Showing(Case):

    def test_one_standing(self):
        here = Standing(Net.row(5), [1, 0, 0, 0, 0], [0, 0, 0, 0, 1], [0, 1, 0, 0])
        good, bad = Marks([0, 1], [4, 3, 2]), Marks([0], [4, 3, 2])
        self.assertEqual([dead_by(here, good, station) for station in range(5)], [False] * 5)
        self.assertEqual([still_by(here, good, rope) for rope in range(4)], [False, True, False, False])
        self.assertEqual([still_by(here, bad, rope) for rope in range(4)], [False] * 4)
        there = Standing(Net.row(3), [1, 0, 0], [0, 0, 1], [1, 0])
        self.assertEqual([dead_by(there, Marks([0], [1, 2]), station) for station in range(3)], [False] * 3)
        apart = Standing(Net.row(3), [1, 0, 0], [0, 0, 1], [1, 1])
        self.assertEqual([dead_by(apart, Marks([0], [2]), station) for station in range(3)], [False, True, False])
        self.assertEqual([dead_by(apart, Marks([], [2]), station) for station in range(3)], [False] * 3)

    def test_words_are_true_or_false(self):
        here = Standing(Net.row(3), [1, 0, 0], [0, 0, 1], [1, 1])
        for marks in (Marks([0], [2]), Marks([], []), Marks([0, FAR], [2])):
            for found in (dead_by(here, marks, 1), still_by(here, marks, 1), border_holds(here, marks, [0])):
                self.assertIsInstance(found, bool)

    def test_stations_and_ropes_that_do_not_exist(self):
        here = Standing(Net.row(3), [1, 0, 0], [0, 0, 1], [1, 1])
        for marks in (Marks([0], [2]), Marks([], [])):
            for station in (-1, 3, FAR, -FAR):
                self.fails(lambda: dead_by(here, marks, station), NoStation, station)
            for rope in (-1, 2, FAR, -FAR):
                self.fails(lambda: still_by(here, marks, rope), NoRope, rope)

    def test_against_all_alike_standings(self):
        for net, kind in small_kinds(totals=[(0, 0), (1, 0), (0, 1), (1, 1), (2, 1)]):
            if meets(kind):
                continue
            here = standing_of(net, kind[-1])
            marks = marks_of(standing_of(net, kind[0]))
            alive, live = guests_somewhere(kind), ropes_that_run(net, kind)
            for station in range(net.stations):
                self.assertIs(dead_by(here, marks, station), station not in alive)
            for rope in range(len(net.ropes)):
                self.assertIs(still_by(here, marks, rope), rope not in live)

    def test_borders_against_their_meaning(self):
        rng = Random(10)
        for net in SMALL_NETS:
            sides = subsets(range(net.stations)) if net.stations < 4 else [[0], [0, 1], [2, 3], [1, 2, 3]]
            for totals in ((0, 0), (1, 0), (1, 1), (2, 1)):
                place = some_place(net, *totals, rng)
                here = standing_of(net, place)
                for reds in sides:
                    for blues in sides:
                        hold = really_hold(net, place, reds, blues)
                        still = [hold and start not in reds and end not in blues for start, end in arrows_at(net, place)]
                        for part in sides:
                            border = [rope for rope, ends in enumerate(net.ropes) if len(set(ends) & set(part)) == 1]
                            expected = hold and all(still[rope] for rope in border)
                            self.assertIs(border_holds(here, Marks(reds, blues), part), expected)
                        found = [still_by(here, Marks(reds, blues), rope) for rope in range(len(net.ropes))]
                        self.assertEqual(found, still)

    def test_stations_of_a_border(self):
        here = Standing(Net.row(4), [1, 0, 0, 0], [0, 0, 0, 1], [0, 1, 0])
        marks = Marks([0, 1], [2, 3])
        for stations in ([0, 1], [1, 0, 1, 1], [0, 1, 4, -1, FAR], [3, 2, 3], [], [9, -5], [0, 1, 2, 3], [3, 0, 1, 2, 0]):
            self.assertIs(border_holds(here, marks, stations), True)
            self.assertIs(border_holds(here, Marks([0], [2, 3]), stations), False)
        for stations in ([0], [0, 0], [1], [0, 2], [0, 1, 2], [1, 2], [3, 17]):
            self.assertIs(border_holds(here, marks, stations), False)

    def test_no_guest_enters_or_leaves(self):
        for net, kind in small_kinds(totals=[(1, 0), (1, 1), (2, 1)], most=400):
            if meets(kind):
                continue
            marks = marks_of(standing_of(net, kind[0]))
            for part in subsets(range(net.stations)):
                if border_holds(standing_of(net, kind[0]), marks, part):
                    guests = {(sum(r[s] for s in part), sum(b[s] for s in part)) for r, b, _ in kind}
                    self.assertEqual(len(guests), 1)

    def test_the_greatest_net(self):
        net = great_net()
        here = Standing(net, [0] * 24, [0] * 24, [0] * 40)
        marks = Marks([], [])
        self.assertTrue(all(dead_by(here, marks, station) for station in range(24)))
        self.assertTrue(all(still_by(here, marks, rope) for rope in range(40)))
        self.assertIs(border_holds(here, marks, list(range(0, 24, 2))), True)
        full = Standing(net, [0] * 23 + [30], [0] * 24, [0] * 40)
        marks = marks_of(full)
        arrows = arrows_at(net, (full.reds, full.blues, full.cars))
        for rope, (start, _) in enumerate(arrows):
            self.assertIs(still_by(full, marks, rope), start not in marks.red_side)


if __name__ == "__main__":
    unittest.main()
