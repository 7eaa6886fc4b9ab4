"""Points 3 to 5: arguments, returned lists, equality, and errors in the same order everywhere."""

import unittest

from case import FAR, Case
from oracle import great_net, great_tree
from plain import plain, spoil
from twinrope.arrows import (arrows_of, blue_reach, can_meet, dead_stations, live_parts, live_ropes, meet_row,
                             meeting_way, red_reach)
from twinrope.between import between_count, diameter, every_between, is_between
from twinrope.bills import Bill, bill_of
from twinrope.books import Books, books_of
from twinrope.counts import choose, kind_count, meeting_count
from twinrope.errors import NoColour, NoRope, NoStation
from twinrope.floors import floor_number, floor_paper, paper_holds
from twinrope.homeward import (from_numbers, homeward_rides, homeward_row, homeward_standing, numbers_of,
                               numbers_of_books, rehome, standing_of_books)
from twinrope.kinship import are_alike, difference_of
from twinrope.lattice import Profile, leftmost, lower, median, profile_of, rightmost, standing_at, upper
from twinrope.least import crossings_of, least_number, least_row, useful_rides
from twinrope.marks import Marks, border_holds, dead_by, marks_hold, marks_of, still_by
from twinrope.nets import Net
from twinrope.plans import plan_of, range_of_rows
from twinrope.ranks import every_kind, kind_at, kind_rank, next_numbers, numbers_at, rank_of
from twinrope.rides import after_ride, can_ride, end_of, rides_from, walk
from twinrope.rings import (best_turns, ring_bill, ring_cost, ring_number, ring_order, ring_row, ring_useful, turn_of)
from twinrope.runs import colours_of_runs, least_fare, runs_between, sure_ropes, trip_fare
from twinrope.sizes import busiest, gather_row, kind_size, members, most_at, size_by_cars
from twinrope.slopes import slope_homeward, slope_kind_count, slope_numbers, slope_rides, slope_tree, slopes_of
from twinrope.standings import Standing, every_standing, standing_count
from twinrope.texts import read_standing, read_trip, write_standing, write_trip
from twinrope.trees import beyond, toward, way_between
from twinrope.trips import Trip
from twinrope.verdicts import can_take, verdict_holds, verdict_of
from twinrope.visits import run_rope, visit_row


TREE = Net(4, [(0, 1), (2, 1), (1, 3)])
FIRST = Standing(TREE, [2, 0, 0, 0], [0, 0, 1, 0], [0, 1, 0])
SECOND = end_of(FIRST, (0, "red"), (0, "red"), (0, "red"), (1, "red"))
APART = Standing(TREE, [2, 0, 0, 0], [0, 0, 1, 0], [1, 1, 0])
NEVER = Standing(Net.row(5), [0, 1, 0, 0, 0], [0, 0, 0, 0, 1], [1, 1, 1, 0])
GREAT = Standing(great_net(), [1] + [0] * 23, [0] * 23 + [2], [0] * 40)
WIDE = Standing(great_tree(), [1] + [0] * 23, [0] * 23 + [2], [0] * 23)
RIDES = [(0, "red"), (0, "red"), (0, "red"), (1, "red")]
MARKS = Marks([0, 1], [3, 4])


def calls():
    """Pairs of a function and a list of its arguments, at least one for each entry of the interface."""
    return world_calls() + kind_calls() + row_calls() + net_calls()


def row_calls():
    """The calls for points 38 to 43."""
    one = Standing(Net.row(4), [2, 0, 0, 0], [1, 0, 0, 0], [0, 0, 0])
    two = end_of(one, (0, "red"), (0, "blue"), (1, "red"), (0, "red"))
    three = end_of(one, (0, "red"), (1, "red"), (2, "red"))
    first = Standing(Net.ring(4), [2, 0, 0, 0], [1, 0, 0, 0], [0, 0, 0, 0])
    rides = [(0, "red"), (0, "blue"), (0, "red"), (1, "red")]
    second = end_of(first, *rides)
    found = [
        (Profile, [[1, 2], [3, 4]]), (Profile([1, 2], [3, 4]).is_below, [Profile([1, 2], [3, 5])]),
        (profile_of, [one]), (standing_at, [one, profile_of(two)]), (median, [one, two, three]), (leftmost, [two]),
        (rightmost, [two]), (is_between, [one, two, three]), (diameter, [one]), (ring_order, [first.net]),
        (ring_bill, [first, second, 3]), (ring_cost, [first, second, 3]), (turn_of, [first, list(rides)]),
    ]
    for entry in (lower, upper, between_count, lambda *args: list(every_between(*args))):
        found.append((entry, [three, two]))
    for entry in (best_turns, ring_number, ring_useful, ring_row):
        found.append((entry, [first, second]))
    return found


def net_calls():
    """The calls for points 44 to 50."""
    net = Net(4, [(0, 1), (1, 2), (2, 3), (3, 2)])
    first = Standing(net, [1, 0, 0, 0], [0] * 4, [0, 0, 0, 0])
    second = Standing(net, [0, 1, 0, 0], [0] * 4, [1, 0, 1, 1])
    still = [Standing(net, [1, 0, 0, 0], [0] * 4, [1, 0, car, car]) for car in (0, 1)]
    bill, levels = floor_paper(first, second)
    found = [
        (Bill, [net, [1, 2, 3, 4], [5, 6, 7, 8]]), (bill.cost, [[1, 2, 3, 4]]), (bill.leads, [first, second]),
        (bill_of, [FIRST, list(RIDES)]), (paper_holds, [first, second, bill, levels]),
        (lambda *args: floor_number(*args[:2], prices=args[2]), [first, second, [1, 2, 3, 4]]),
        (lambda *args: floor_paper(*args[:2], prices=args[2]), [first, second, [1, 2, 3, 4]]),
        (lambda *args: paper_holds(*args[:4], prices=args[4]), [first, second, bill, levels, [1, 2, 3, 4]]),
        (verdict_of, still), (verdict_holds, still + [verdict_of(*still)]), (can_take, [FIRST, SECOND, 4]),
        (verdict_holds, [FIRST, SECOND, ("alike", list(RIDES))]), (verdict_of, [FIRST, APART]),
    ]
    for entry in (floor_number, floor_paper, plan_of, range_of_rows, verdict_of):
        found += [(entry, [first, second]), (entry, [FIRST, SECOND]), (entry, [GREAT, GREAT])]
    return found


def kind_calls():
    """The calls for points 27 to 37."""
    slopes = Standing(Net(3, [(2, 1), (0, 1), (1, 2)]), [0, 0, 2], [1, 0, 0], [0, 1, 1])
    found = [
        (runs_between, [FIRST, SECOND]), (sure_ropes, [FIRST, SECOND]), (colours_of_runs, [FIRST, SECOND, 0]),
        (trip_fare, [[1, 2, 3], [4, 5, 6], list(RIDES)]), (least_fare, [FIRST, SECOND, [1, 2, 3], [4, 5, 6]]),
        (from_numbers, [TREE, 1, [0, 1, -2], 3, 2]), (numbers_of_books, [TREE, 1, Books([0, 1, 2, -2])]),
        (standing_of_books, [TREE, books_of(FIRST), 2, 1]), (standing_of_books, [TREE, books_of(FIRST), 1, 1]),
        (rehome, [TREE, 1, [0, 1, -2], 3, 2, 3]), (choose, [5, 2]), (kind_count, [3, 2, 1]),
        (meeting_count, [3, 2, 1]), (rank_of, [[0, 1, -2], 3, 2]), (numbers_at, [7, 3, 3, 2]),
        (next_numbers, [[0, 1, -2], 3, 2]), (kind_at, [TREE, 1, 5, 3, 2]),
        (lambda *args: list(every_kind(*args)), [TREE, 1, 1, 1]), (size_by_cars, [FIRST, [1, 1, 0]]),
        (kind_size, [slopes]), (lambda *args: list(members(*args)), [slopes]), (slopes_of, [slopes.net]),
        (slopes_of, [GREAT.net]), (slope_tree, [slopes.net]), (slope_homeward, [slopes, 1]),
        (slope_numbers, [slopes, 1]), (slope_rides, [slopes, 1]), (slope_kind_count, [[1, 2], 2, 1]),
        (lambda *args: list(members(*args)), [NEVER]),
    ]
    for here in (FIRST, NEVER, WIDE):
        for entry in (homeward_rides, homeward_row, homeward_standing, numbers_of, kind_rank, most_at, gather_row):
            found.append((entry, [here, 2]))
        found += [(kind_size, [here]), (busiest, [here])]
    return found


def world_calls():
    """The calls for points 7 to 26."""
    found = [
        (Net, [4, [(0, 1), (2, 1), (1, 3)]]), (Net.row, [4]), (Net.ring, [4]), (Net.star, [4]), (TREE.ends, [1]),
        (TREE.other_end, [1, 2]), (TREE.ropes_at, [1]), (repr, [TREE]),
        (Standing, [TREE, [2, 0, 0, 0], [0, 0, 1, 0], [0, 0, 0]]), (Standing.gathered, [TREE, 3, 4]),
        (FIRST.key, []), (FIRST.red_car, [1]), (FIRST.blue_car, [1]), (FIRST.red_cars_at, [1]),
        (standing_count, [TREE, 2, 1]), (lambda *args: list(every_standing(*args)), [TREE, 1, 1]),
        (can_ride, [FIRST, 0, "red"]), (after_ride, [FIRST, 0, "red"]), (rides_from, [FIRST]),
        (walk, [FIRST, list(RIDES)]), (end_of, [FIRST] + RIDES), (Trip, [list(RIDES)]), (Trip(RIDES).reduced, []),
        (Trip(RIDES).tally, [3]), (list, [Trip(RIDES)]), (write_standing, [FIRST]),
        (read_standing, [write_standing(FIRST)]), (write_trip, [list(RIDES)]), (read_trip, ["r0 b1 r0"]),
        (Books, [[1, 2]]), (Books([1, 2]).total, []), (list, [Books([1, 2])]), (Marks, [[1, 0, 1], [5]]),
        (MARKS.within, [Marks([0, 1, 2], [3, 4])]), (difference_of, [FIRST, SECOND]), (difference_of, [FIRST, APART]),
        (are_alike, [FIRST, SECOND]), (crossings_of, [FIRST, SECOND]), (least_number, [FIRST, SECOND]),
        (useful_rides, [FIRST, SECOND]), (least_row, [FIRST, SECOND]), (beyond, [TREE, 0, 1]), (toward, [TREE, 3]),
        (way_between, [TREE, 0, 3]), (beyond, [WIDE.net, 0, 1]), (toward, [WIDE.net, 3]),
        (way_between, [WIDE.net, 0, 23]), (marks_of, [NEVER]),
    ]
    for here in (FIRST, NEVER, GREAT, WIDE):
        for entry in (books_of, arrows_of, red_reach, blue_reach, can_meet, meeting_way, dead_stations, live_ropes,
                      live_parts, rides_from):
            found.append((entry, [here]))
        found += [(marks_hold, [here, MARKS]), (dead_by, [here, MARKS, 2]), (still_by, [here, MARKS, 1]),
                  (border_holds, [here, MARKS, [0, 1, 1]]), (visit_row, [here, 1]), (run_rope, [here, 0])]
        if can_meet(here):
            found.append((meet_row, [here]))
    return found


class Arguments(Case):

    def test_calls_change_no_argument_and_no_later_answer(self):
        for entry, arguments in calls():
            before = plain(arguments)
            answer = entry(*arguments)
            kept = plain(answer)
            self.assertEqual(plain(arguments), before)
            spoil(answer)
            self.assertEqual(plain(entry(*arguments)), kept)
            self.assertEqual(plain(arguments), before)

    def test_meeting_is_among_the_calls(self):
        self.assertEqual([can_meet(here) for here in (FIRST, NEVER)], [True, False])
        self.assertNotEqual(meeting_way(FIRST)[1], [])
        self.assertEqual(live_parts(NEVER), [[0, 1], [3, 4]])

    def test_equal_arguments_give_equal_results(self):
        for (entry, arguments), (other, again) in zip(calls(), calls()):
            self.assertEqual(plain(entry(*arguments)), plain(other(*again)))

    def test_objects_keep_copies(self):
        ropes = [(0, 1), (1, 2)]
        net = Net(3, ropes)
        reds, blues, cars = [1, 0, 0], [0, 0, 1], [0, 1]
        here = Standing(net, reds, blues, cars)
        rides, entries, sides = [(0, "red")], [1, 2], ([1, 0], [2])
        trip, books, marks = Trip(rides), Books(entries), Marks(*sides)
        above, crossed = ([1, 2], [3, 4]), ([5, 6], [7, 8])
        made = [net, here, trip, books, marks, Profile(*above), Bill(net, *crossed)]
        kept = plain(made)
        spoil([ropes, reds, blues, cars, rides, entries, sides, above, crossed])
        self.assertEqual(plain(made), kept)
        self.assertEqual(net, Net(3, [(0, 1), (1, 2)]))
        self.assertEqual(here, Standing(Net.row(3), [1, 0, 0], [0, 0, 1], [0, 1]))
        self.assertEqual((trip, books, marks), (Trip([(0, "red")]), Books([1, 2]), Marks([0, 1], [2])))

    def test_walked_standings_are_not_changed(self):
        found = walk(FIRST, RIDES)
        kept = plain(found)
        found[0] = None
        self.assertEqual(plain(walk(FIRST, RIDES)), kept)
        self.assertEqual(FIRST.reds, (2, 0, 0, 0))


class Equality(Case):

    def test_an_object_beside_a_value_of_another_class(self):
        objects = [Net(1, []), Standing(Net(1, []), [0], [0], []), Trip([]), Books([]), Books([0]), Marks([], []),
                   Profile([], []), Bill(Net(1, []), [], [])]
        others = [None, 0, "", "x", (), [], {}, True, (0,), [0], ((), ()), (0, 0), (1, ()), {1}]
        for place, one in enumerate(objects):
            for other in others + objects[:place] + objects[place + 1:]:
                self.assertIs(one == other, False)
                self.assertIs(one != other, True)
                self.assertIs(other == one, False)
            self.assertIs(one == one, True)

    def test_an_object_beside_its_own_parts(self):
        rides = ((0, "red"),)
        for one, other in ((Trip(rides), rides), (Trip(rides), list(rides)), (Books([1, 2]), (1, 2)),
                           (Books([1, 2]), [1, 2]), (FIRST, FIRST.key()), (TREE, TREE.ropes), (TREE, repr(TREE)),
                           (MARKS, (MARKS.red_side, MARKS.blue_side)), (Trip([]), Books([]))):
            self.assertIs(one == other, False)
            self.assertIs(one != other, True)


class OrderOfErrors(Case):

    def test_stations_that_do_not_exist(self):
        for here in (FIRST, NEVER, WIDE, GREAT):
            for station in (-1, here.net.stations, FAR, -FAR):
                entries = [
                    lambda: here.net.ropes_at(station), lambda: here.net.other_end(0, station),
                    lambda: here.red_cars_at(station), lambda: dead_by(here, MARKS, station),
                    lambda: visit_row(here, station), lambda: books_of(here)[station],
                ]
                for entry in entries:
                    self.fails(entry, NoStation, station)

    def test_ropes_that_do_not_exist(self):
        for here in (FIRST, NEVER, WIDE, GREAT):
            for rope in (-1, len(here.net.ropes), FAR, -FAR):
                entries = [
                    lambda: here.net.ends(rope), lambda: here.net.other_end(rope, -5), lambda: here.red_car(rope),
                    lambda: here.blue_car(rope), lambda: can_ride(here, rope, "green"),
                    lambda: after_ride(here, rope, "green"), lambda: walk(here, [(rope, "green")]),
                    lambda: end_of(here, (rope, "green")), lambda: end_of(here, (rope, "red"), back=True),
                    lambda: still_by(here, MARKS, rope), lambda: run_rope(here, rope),
                ]
                for entry in entries:
                    self.fails(entry, NoRope, rope)

    def test_words_that_are_no_colour(self):
        for here in (FIRST, NEVER, WIDE, GREAT):
            for word in ("", "Red", "blue ", "green", "r", "redblue", "0"):
                entries = [
                    lambda: can_ride(here, 0, word), lambda: after_ride(here, 0, word),
                    lambda: walk(here, [(0, word), (-1, "red")]), lambda: end_of(here, (0, word), (-1, "red")),
                ]
                for entry in entries:
                    self.fails(entry, NoColour, word)


if __name__ == "__main__":
    unittest.main()
