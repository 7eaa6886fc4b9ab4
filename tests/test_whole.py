"""What ties the parts together: one standing, followed through all of them."""

import unittest
from random import Random

from case import Case
from oracle import (CIRCLES, SMALL_NETS, great_net, great_tree, moves, place_of, some_place, some_row, standing_of,
                    steps_from)
from twinrope.arrows import can_meet, dead_stations, live_parts, live_ropes
from twinrope.between import diameter, is_between
from twinrope.bills import bill_of
from twinrope.blind import Blind, blind_difference, blind_of
from twinrope.books import books_of
from twinrope.companions import named_difference
from twinrope.crowds import Crowd, walk_named
from twinrope.desk import Desk
from twinrope.errors import RopeError
from twinrope.exchanges import named_plan
from twinrope.floors import floor_number, floor_paper, paper_holds
from twinrope.heard import heard_balance, heard_count, heard_ends, heard_first, heard_to
from twinrope.homeward import homeward_standing, numbers_of
from twinrope.houses import House
from twinrope.kinship import are_alike, difference_of
from twinrope.layers import layers_of, twin_number
from twinrope.least import least_number
from twinrope.logs import deletes, inserts, log_holds, mends, odd_ropes
from twinrope.lots import Lot, closed_lot
from twinrope.marks import marks_of
from twinrope.nets import Net
from twinrope.plans import plan_of, range_of_rows
from twinrope.ranks import every_kind, kind_at, kind_rank
from twinrope.rides import end_of, walk
from twinrope.rings import ring_number
from twinrope.sizes import kind_size, members
from twinrope.standings import every_standing
from twinrope.tables import table_of
from twinrope.texts import read_standing, read_trip, write_standing, write_trip
from twinrope.together import Together, together_difference
from twinrope.trips import Trip
from twinrope.verdicts import can_take, verdict_holds, verdict_of

GREAT = [great_net(), great_tree(), Net.ring(24), Net.row(24)]
GUESTS = "abcdefghijkl"


def rowed(net, totals, length, rng):
    """A standing, a row from it and the standing behind the row."""
    place = some_place(net, *totals, rng)
    rides, places = some_row(net, place, length, rng)
    return standing_of(net, place), rides, standing_of(net, places[-1])


def crowd_with(standing):
    names = iter(GUESTS)
    guests = [[(next(names), station) for station, many in enumerate(part) for _ in range(many)]
              for part in (standing.reds, standing.blues)]
    return Crowd(standing.net, standing.cars, *guests)


def named(crowd, rides):
    """The same rides, each by some guest who can do it."""
    row = []
    for rope, colour in rides:
        standing = crowd.standing()
        station = standing.red_car(rope) if colour == "red" else standing.blue_car(rope)
        name = [name for name in crowd.names(colour) if crowd.place_of(name) == station][0]
        row.append((rope, name))
        crowd = walk_named(crowd, [row[-1]])[-1]
    return row


class OneStandingThroughAllParts(Case):

    def each(self, seed, length=12):
        rng = Random(seed)
        for net in SMALL_NETS + CIRCLES + GREAT:
            for totals in ((0, 0), (1, 0), (0, 2), (1, 1), (3, 2), (6, 6)):
                yield rowed(net, totals, length, rng)

    def test_all_ways_to_walk(self):
        for first, rides, last in self.each(1):
            here = read_standing(write_standing(first))
            self.assertEqual(here, first)
            desk = Desk(here)
            for ride in rides:
                desk.take(*ride)
            log = read_trip(write_trip(desk.log()))
            self.assertEqual((log, desk.now), (rides, last))
            self.assertEqual(walk(here, log)[-1], last)
            self.assertEqual(end_of(here, *log), last)
            self.assertEqual(end_of(last, *log, back=True), first)
            trip = Trip(log)
            self.assertEqual(end_of(here, *trip.reduced()), last)
            self.assertEqual(end_of(here, *(trip + ~trip)), first)
            self.assertEqual(House().walk_steps(here, log)[-1], last)
            self.assertEqual(Together().walk_steps(here, log)[-1], last)
            crowd = crowd_with(here)
            self.assertEqual(walk_named(crowd, named(crowd, log))[-1].standing(), last)
            self.assertEqual(read_standing(write_standing(desk.now)), last)
            while desk.done:
                desk.undo()
            self.assertEqual(desk.now, first)

    def test_what_stays(self):
        for first, _, last in self.each(2):
            self.assertEqual(books_of(first), books_of(last))
            for entry in (dead_stations, live_ropes, live_parts, can_meet):
                self.assertEqual(entry(first), entry(last))
            self.assertIsNone(difference_of(first, last))
            self.assertIsNone(together_difference(first, last))
            self.assertIsNone(blind_difference(blind_of(first), blind_of(last)))
            self.assertTrue(Blind().same_kind(blind_of(first), blind_of(last)))
            if not can_meet(first):
                self.assertEqual(marks_of(first), marks_of(last))
            if first.net.is_tree:
                for home in (0, first.net.stations - 1):
                    self.assertEqual(kind_rank(first, home), kind_rank(last, home))
                    self.assertEqual(numbers_of(first, home), numbers_of(last, home))
                    self.assertEqual(homeward_standing(first, home), homeward_standing(last, home))
                self.assertEqual(kind_size(first), kind_size(last))
            self.assertEqual(table_of(first)[-1], table_of(last)[-1])

    def test_what_agrees_on_a_row(self):
        for first, rides, last in self.each(3):
            net = first.net
            self.assertTrue(verdict_holds(first, last, ("alike", rides)))
            self.assertTrue(verdict_holds(first, last, verdict_of(first, last)))
            floor, longest = range_of_rows(first, last)
            plan = plan_of(first, last)
            bill = bill_of(first, rides)
            self.assertEqual((floor, longest), (floor_number(first, last), len(plan)))
            self.assertLessEqual(floor, bill.cost())
            self.assertLessEqual(bill.cost(), len(rides))
            self.assertEqual({floor % 2, longest % 2, bill.cost() % 2}, {len(rides) % 2})
            self.assertTrue(bill.leads(first, last) and bill_of(first, plan).leads(first, last))
            paper, levels = floor_paper(first, last)
            self.assertTrue(paper_holds(first, last, paper, levels))
            self.assertEqual(paper.cost(), floor)
            lot = closed_lot(first, last)
            self.assertEqual((lot.outcome, Lot.replayed(first, last, lot.facts).closed), ("alike", True))
            if net.is_tree or net.is_ring:
                least = least_number(first, last) if net.is_tree else ring_number(first, last)
                self.assertEqual((floor, len(plan)), (least, least))
                self.assertTrue(can_take(first, last, len(rides)))
                self.assertEqual(closed_lot(first, last, least=True).facts[-1], ("least", (least,), (0, 1)))
            self.assertTrue(log_holds(first, last, plan[:60]) == (len(plan) <= 60))

    def test_what_is_heard_of_it(self):
        for first, rides, last in self.each(4, length=8):
            ropes = [rope for rope, _ in rides]
            self.assertIn(last, heard_ends(first, ropes))
            self.assertGreaterEqual(heard_to(first, ropes, last), 1)
            self.assertEqual(heard_balance(first, ropes), [r - b for r, b in zip(last.reds, last.blues)])
            fit = list(zip(ropes, heard_first(first, ropes)))
            self.assertIn(end_of(first, *fit), heard_ends(first, ropes))
            self.assertEqual(sum(heard_to(first, ropes, there) for there in heard_ends(first, ropes)),
                             heard_count(first, ropes))
            for there in heard_ends(first, ropes):
                self.assertTrue(are_alike(first, there))

    def test_its_log(self):
        for first, rides, last in self.each(5):
            self.assertTrue(log_holds(first, last, rides))
            self.assertEqual(odd_ropes(first, last, rides), [])
            for step, ride in enumerate(rides):
                short = rides[:step] + rides[step + 1:]
                self.assertIn((step, ride), inserts(first, last, short))
                self.assertEqual(odd_ropes(first, last, short), [ride[0]])
                self.assertIn(step, deletes(first, last, rides[:step] + [ride] + rides[step:]))
                wrong = rides[:step] + [(ride[0], "blue" if ride[1] == "red" else "red")] + rides[step + 1:]
                self.assertIn((step, ride), mends(first, last, wrong))

    def test_a_desk_that_goes_to_a_goal(self):
        for first, rides, last in self.each(6):
            desk = Desk(first)
            desk.goal = last
            self.assertEqual(desk.left(), floor_number(first, last))
            if first.net.is_tree or first.net.is_ring:
                row = desk.finish()
                self.assertEqual((desk.now, len(row)), (last, floor_number(first, last)))
                self.assertEqual(desk.probe(row[::-1]), first)
            else:
                desk.attempt(plan_of(first, last))
                self.assertEqual((desk.now, desk.left()), (last, 0))

    def test_with_names(self):
        for first, rides, last in self.each(7):
            crowd = crowd_with(first)
            after = walk_named(crowd, named(crowd, rides))[-1]
            self.assertIsNone(named_difference(crowd, after))
            self.assertEqual(walk_named(crowd, named_plan(crowd, after))[-1], after)
            self.assertEqual(after.standing(), last)

    def test_standings_apart(self):
        rng = Random(8)
        for net in SMALL_NETS + CIRCLES + GREAT:
            for totals in ((1, 0), (1, 1), (3, 2)):
                first, second = (standing_of(net, some_place(net, *totals, rng)) for _ in range(2))
                why = difference_of(first, second)
                claim = verdict_of(first, second)
                self.assertTrue(verdict_holds(first, second, claim))
                lot = closed_lot(first, second)
                if why is None:
                    self.assertEqual((claim[0], lot.outcome), ("alike", "alike"))
                else:
                    self.assertEqual((claim[:2], lot.outcome), (("apart", why), "apart"))
                    for entry in (floor_number, floor_paper, plan_of, range_of_rows):
                        self.assertEqual(self.why(entry, first, second), why)
                self.assertEqual(House().same_kind(first, second), why is None)

    def why(self, entry, first, second):
        try:
            entry(first, second)
        except RopeError as error:
            return error.why
        return None


class SmallKinds(Case):

    def test_members_layers_and_sizes(self):
        rng = Random(9)
        for net in SMALL_NETS + CIRCLES:
            for totals in ((0, 0), (1, 0), (1, 1), (2, 1)):
                here = standing_of(net, some_place(net, *totals, rng))
                kind = list(members(here))
                layers = layers_of(here)
                self.assertEqual(sorted(there.key() for layer in layers for there in layer),
                                 [there.key() for there in kind])
                self.assertEqual(len(kind), kind_size(here))
                self.assertEqual(len(kind), len(steps_from(net, place_of(here))))
                last = layers[-1][-1]
                self.assertEqual(twin_number(here, last), len(layers) - 1)
                if net.is_row:
                    self.assertLessEqual(len(layers) - 1, diameter(here))
                    self.assertTrue(is_between(here, here, last))
                for there in kind[::5]:
                    self.assertTrue(verdict_holds(here, there, verdict_of(here, there)))

    def test_kinds_by_rank_are_the_groups_of_the_house(self):
        for net in (Net.row(2), Net.row(3), Net(3, [(2, 0), (1, 2)])):
            for totals in ((1, 0), (1, 1), (2, 1)):
                groups = House().groups(net, *totals)
                kinds = list(every_kind(net, 0, *totals))
                self.assertEqual(len(groups), len(kinds))
                for rank, kind in enumerate(kinds):
                    self.assertEqual(kind, kind_at(net, 0, rank, *totals))
                    self.assertEqual([list(members(kind))], [group for group in groups if kind in group])

    def test_generators_raise_at_the_first_item(self):
        net = Net.ring(24)
        here = standing_of(net, some_place(net, 3, 3, Random(10)))
        for made in (lambda: members(here), lambda: every_standing(net, 3, 3), lambda: every_kind(net, 0, 3, 3)):
            items = made()
            with self.assertRaises(RopeError):
                next(items)


class TheGreatest(Case):

    def test_the_greatest_net_with_thirty_guests(self):
        rng = Random(11)
        net = great_net()
        first, rides, last = rowed(net, (15, 15), 4000, rng)
        self.assertEqual(len(rides), 4000)
        desk = Desk(first)
        desk.attempt(rides)
        self.assertEqual(desk.now, last)
        self.assertEqual(read_trip(write_trip(rides)), rides)
        for house in (House(), Together()):
            self.assertEqual(house.walk_steps(first, rides)[-1], last)
        self.assertEqual(walk(first, plan_of(first, last))[-1], last)
        self.assertEqual(closed_lot(first, last).outcome, "alike")
        self.assertTrue(verdict_holds(first, last, ("alike", rides)))
        ropes = [rope for rope, _ in rides[-12:]]
        before = walk(first, rides[:-12])[-1]
        self.assertIn(last, heard_ends(before, ropes))
        self.assertTrue(log_holds(before, last, rides[-12:]))
        self.assertEqual(moves(net, place_of(first))[0][0], House().steps(first)[0])


if __name__ == "__main__":
    unittest.main()
