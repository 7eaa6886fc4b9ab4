"""Points 3 to 5 for all that follows the verdicts: arguments, returned lists, equality and the order of errors."""

import unittest

from case import FAR, Case
from oracle import CIRCLES, great_net
from plain import plain, spoil
from twinrope.blind import Blind, blind_difference, blind_number, blind_of, blind_plan, blind_row
from twinrope.companions import companions, named_count, named_difference
from twinrope.crowds import Crowd, ride_named, walk_named
from twinrope.desk import Desk
from twinrope.errors import NoName, NoRope, NoStation
from twinrope.exchanges import border_of, exchange_row, named_plan
from twinrope.heard import heard_balance, heard_count, heard_ends, heard_first, heard_reds, heard_to
from twinrope.houses import House
from twinrope.layers import layers_of, twin_number
from twinrope.logs import deletes, inserts, log_holds, mends, odd_ropes
from twinrope.lots import Lot, closed_lot
from twinrope.nets import Net
from twinrope.parted import parted
from twinrope.rides import end_of
from twinrope.standings import Standing
from twinrope.tables import kind_table, table_of
from twinrope.together import Together, together_difference, together_row, turn_one

NET = Net(4, [(0, 1), (2, 1), (1, 3)])
FIRST = Standing(NET, [2, 0, 0, 0], [0, 0, 1, 0], [0, 1, 0])
SECOND = end_of(FIRST, (0, "red"), (0, "red"), (0, "red"), (1, "red"))
CROWD = Crowd(NET, [0, 1, 0], [("ann", 0), ("eva", 0)], [("bob", 2)])
APART = Crowd(CIRCLES[1], [1, 1, 0, 1, 0], [("ann", 0), ("bob", 1)], [])
ONE = Standing(CIRCLES[0], [3, 0, 0, 0], [0] * 4, [0, 0, 0, 0])
TWO = Blind().walk_steps(ONE, [(0, "first"), (1, "first"), (2, "first"), (3, "first"), (0, "first")])[-1]
LOW = Standing(NET, [2, 0, 0, 0], [0] * 4, [0, 1, 0])
HIGH = Standing(NET, [0, 0, 2, 0], [0] * 4, [0, 1, 0])
RIDES = [(0, "ann"), (0, "ann"), (0, "eva"), (1, "eva")]


def calls():
    """Pairs of a function and a list of its arguments, at least one for each entry of the interface."""
    return crowd_calls() + house_calls() + heard_calls() + lot_calls()


def crowd_calls():
    """The calls for points 51 to 56."""
    after = walk_named(CROWD, RIDES)[-1]
    moved = Crowd(CIRCLES[1], [1, 1, 0, 1, 0], [("ann", 1), ("bob", 0)], [])
    return [
        (layers_of, [FIRST]), (twin_number, [FIRST, SECOND]), (twin_number, [FIRST, LOW]),
        (Crowd, [NET, [0, 1, 0], [("eva", 0), ("ann", 0)], [("bob", 2)]]), (CROWD.names, ["red"]),
        (CROWD.place_of, ["bob"]), (CROWD.colour_of, ["bob"]), (CROWD.standing, []), (len, [CROWD]),
        (lambda name: name in CROWD, ["eva"]), (ride_named, [CROWD, 0, "ann"]), (walk_named, [CROWD, list(RIDES)]),
        (named_difference, [CROWD, after]), (named_difference, [APART, moved]), (companions, [CROWD, "ann"]),
        (companions, [APART, "ann"]), (named_count, [APART]), (exchange_row, [CROWD, "ann", "eva"]),
        (exchange_row, [after, "ann", "eva"]), (exchange_row, [APART, "bob", "ann"]), (border_of, [APART, "ann"]),
        (named_plan, [CROWD, after]), (named_plan, [APART, moved]),
    ]


def house_calls():
    """The calls for points 57 to 59."""
    coloured, blind = House(), Blind()
    steps = [(0, "first"), (0, "second"), (1, "second")]
    found = [
        (coloured.words, []), (coloured.steps, [FIRST]), (coloured.step_to, [FIRST, 0, "red"]),
        (coloured.walk_steps, [FIRST, [(0, "red"), (1, "blue")]]), (coloured.same_kind, [FIRST, SECOND]),
        (coloured.kind_total, [NET, 2, 1]), (coloured.groups, [Net.row(3), 1, 1]),
        (coloured.groups, [Net.ring(3), 1, 0]), (blind.words, []), (blind.steps, [LOW]),
        (blind.step_to, [LOW, 0, "first"]), (blind.walk_steps, [LOW, list(steps[:2])]),
        (blind.same_kind, [LOW, HIGH]), (blind.kind_total, [NET, 3, 0]), (blind.groups, [Net.ring(3), 2, 0]),
        (blind_of, [FIRST]), (blind_plan, [ONE, TWO]),
    ]
    for entry in (blind_difference, blind_number, blind_row, blind_plan):
        found.append((entry, [LOW, HIGH]))
    return found


def heard_calls():
    """The calls for points 60 to 64."""
    together = Together()
    both = [(0, "red"), (0, "both"), (0, "blue")]
    meeting = Standing(NET, [2, 0, 0, 0], [1, 0, 1, 0], [0, 1, 0])
    wrong = [(0, "red"), (0, "red"), (0, "red"), (1, "blue")]
    found = [
        (together.words, []), (together.steps, [meeting]), (together.step_to, [meeting, 0, "red"]),
        (together.walk_steps, [meeting, list(both)]), (together.same_kind, [FIRST, SECOND]),
        (together.kind_total, [NET, 2, 1]), (together.groups, [Net.row(3), 1, 1]), (turn_one, [meeting, 1]),
        (parted, [House(), Blind(), Net.row(3), 1, 1]), (parted, [Blind(), together, Net.row(2), 2, 1]),
        (parted, [House(), House(), Net.row(3), 1, 1]), (heard_reds, [FIRST, [0, 0, 1], 1]),
        (heard_to, [FIRST, [0, 0, 0, 1], SECOND]),
    ]
    for entry in (together_difference, together_row):
        found += [(entry, [FIRST, SECOND]), (entry, [ONE, ONE])]
    for entry in (heard_count, heard_first, heard_ends, heard_balance):
        found += [(entry, [FIRST, [0, 0, 1]]), (entry, [FIRST, []])]
    for entry in (log_holds, odd_ropes, mends, inserts, deletes):
        for rides in (wrong, wrong[:3], wrong + wrong, []):
            found.append((entry, [FIRST, SECOND, list(rides)]))
    return found


def lot_calls():
    """The calls for points 65 to 70, that of the deeds of a desk left out."""
    desk = Desk(FIRST)
    desk.attempt([(0, "red"), (0, "red"), (0, "red")])
    desk.mark("m")
    desk.undo()
    desk.mark("n")
    desk.set_goal(SECOND)
    circle = [Standing(CIRCLES[1], [1] + [0] * 4, [0] * 5, [1, 1, car, car, car]) for car in (0, 1)]
    lot = closed_lot(FIRST, SECOND)
    return [
        (closed_lot, [FIRST, SECOND]), (closed_lot, list(circle)), (closed_lot, [FIRST, LOW]),
        (lambda *args: closed_lot(*args, least=True), [FIRST, SECOND]), (Lot, [FIRST, SECOND]),
        (Lot.replayed, [FIRST, SECOND, lot.facts]), (Lot.replayed, [FIRST, SECOND, lot.facts[:4]]),
        (lambda: lot.facts, []), (lambda: lot.outcome, []), (len, [lot]), (lambda fact: fact in lot, [lot.facts[2]]),
        (lambda: desk.now, []), (lambda: desk.goal, []), (desk.left, []), (desk.rank, []), (desk.log, []),
        (desk.redo_list, []), (desk.marks, []), (desk.runs_of, [0]), (desk.probe, [[(0, "red"), (1, "red")]]),
        (lambda: list(desk.story()), []), (desk.advice, []), (table_of, [FIRST]), (kind_table, [3, 2]),
    ]


class Arguments(Case):

    def test_calls_change_no_argument_and_no_later_answer(self):
        for entry, arguments in calls():
            before = plain(arguments)
            answer = entry(*arguments)
            kept = plain(answer)
            self.assertEqual(plain(arguments), before)
            spoil(answer)
            self.assertEqual(plain(entry(*arguments)), kept)
            self.assertEqual(plain(arguments), before)

    def test_equal_arguments_give_equal_results(self):
        for (entry, arguments), (other, again) in zip(calls(), calls()):
            self.assertEqual(plain(entry(*arguments)), plain(other(*again)))


class Equality(Case):

    def test_an_object_beside_a_value_of_another_class(self):
        objects = [Crowd(Net(1, []), [], [], []), House(), Blind(), Together(), Lot(FIRST, FIRST), Desk(FIRST), FIRST,
                   Net(1, [])]
        others = [None, 0, "", "blind", (), [], {}, True, ((), ()), {1}]
        for place, one in enumerate(objects):
            for other in others + objects[:place] + objects[place + 1:]:
                self.assertIs(one == other, False)
                self.assertIs(one != other, True)
                self.assertIs(other == one, False)
            self.assertIs(one == one, True)


class Deeds(Case):

    def test_lists_that_are_passed_stay_and_are_not_kept(self):
        desk = Desk(FIRST)
        rides = [(0, "red"), (0, "red"), (0, "red"), (1, "red")]
        desk.attempt(rides)
        self.assertEqual(rides, [(0, "red"), (0, "red"), (0, "red"), (1, "red")])
        rides.clear()
        self.assertEqual((desk.done, desk.now), (4, SECOND))
        desk.set_goal(FIRST)
        row = desk.finish()
        kept = list(row)
        row.clear()
        self.assertEqual(desk.log()[4:], kept)
        self.assertEqual(plain(FIRST), plain(Standing(NET, [2, 0, 0, 0], [0, 0, 1, 0], [0, 1, 0])))

    def test_two_desks_do_not_share_anything(self):
        one, other = Desk(FIRST), Desk(FIRST)
        one.take(0, "red")
        one.mark("m")
        one.move_home(2)
        self.assertEqual((other.done, other.marks(), other.home, other.now), (0, [], 0, FIRST))
        first, second = Lot(FIRST, SECOND), Lot(FIRST, SECOND)
        first.put("totals", (2, 1), ())
        self.assertEqual((len(first), len(second)), (1, 0))


class OrderOfErrors(Case):

    def test_ropes_and_stations_of_heard_rides_logs_and_desks(self):
        desk = Desk(FIRST)
        for rope in (-1, 3, FAR, -FAR):
            for entry in (lambda: Together().step_to(FIRST, rope, ""), lambda: turn_one(FIRST, rope),
                          lambda: Together().walk_steps(FIRST, [(rope, "")]), lambda: heard_count(FIRST, [rope]),
                          lambda: heard_reds(FIRST, [rope], -1), lambda: heard_to(FIRST, [rope], SECOND),
                          lambda: log_holds(FIRST, SECOND, [(rope, "")]), lambda: mends(FIRST, SECOND, [(rope, "")]),
                          lambda: desk.take(rope, ""), lambda: desk.attempt([(rope, "")]), lambda: desk.runs_of(rope),
                          lambda: desk.probe([(rope, "")])):
                self.fails(entry, NoRope, rope)
        for station in (-1, 4, FAR, -FAR):
            for entry in (lambda: heard_reds(FIRST, [2], station), lambda: desk.move_home(station),
                          lambda: setattr(desk, "home", station)):
                self.fails(entry, NoStation, station)

    def test_ropes_and_names(self):
        for rope in (-1, 3, FAR, -FAR):
            for entry in (lambda: ride_named(CROWD, rope, "max"), lambda: walk_named(CROWD, [(rope, "max")]),
                          lambda: House().step_to(FIRST, rope, ""), lambda: House().walk_steps(FIRST, [(rope, "")]),
                          lambda: Blind().step_to(FIRST, rope, ""), lambda: Blind().walk_steps(FIRST, [(rope, "")])):
                self.fails(entry, NoRope, rope)
        for name in ("", "max", "ANN", "ann "):
            for entry in (lambda: CROWD.place_of(name), lambda: CROWD.colour_of(name),
                          lambda: ride_named(CROWD, 0, name), lambda: walk_named(CROWD, [(0, name)]),
                          lambda: companions(CROWD, name), lambda: border_of(CROWD, name),
                          lambda: exchange_row(CROWD, name, "leo"), lambda: exchange_row(CROWD, "bob", name)):
                self.fails(entry, NoName, name)

    def test_the_greatest_crowd(self):
        net = great_net()
        guests = [(chr(97 + k), 2 * k) for k in range(12)]
        here = Crowd(net, [0, 1] * 20, guests[:7], guests[7:])
        self.assertEqual((len(here), len(here.standing().reds)), (12, 24))
        self.assertGreaterEqual(named_count(here), 1)
        for name, _ in guests:
            self.assertNotIn(name, companions(here, name))


if __name__ == "__main__":
    unittest.main()
