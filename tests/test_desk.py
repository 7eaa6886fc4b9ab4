"""Points 68 and 69: the desk."""

import unittest
from random import Random

from case import FAR, Case
from desk_oracle import Model, Refused
from oracle import (CIRCLES, OTHERS, RINGS, SMALL_NETS, TREES, all_rides, great_net, great_tree, moves, place_of,
                    some_place, some_row, standing_of, steps_from, walked)
from plain import plain
from twinrope import errors
from twinrope.desk import Desk
from twinrope.errors import (Apart, BrokenRow, NoColour, NoGoal, NoMark, NoRide, NoRope, NoStation, NotATree, NotExact,
                             NothingToRedo, NothingToUndo, OtherNet)
from twinrope.floors import floor_number
from twinrope.kinship import difference_of
from twinrope.least import least_row, useful_rides
from twinrope.nets import Net
from twinrope.ranks import kind_rank
from twinrope.rings import ring_row, ring_useful
from twinrope.standings import Standing

GO, ON = (0, "red"), (1, "red")
NAMES = ["", "a", "b", "long name", "\n", "\u00e9"]


def row_desk():
    return Desk(Standing(Net.row(4), [2, 0, 0, 0], [0, 0, 0, 1], [0, 0, 0]))


def seen(desk):
    """Everything that the desk tells without a change."""
    return plain((desk.now, desk.done, desk.goal or 0, desk.home, desk.log(), desk.redo_list(), desk.marks(),
                  list(desk.story()), [desk.runs_of(rope) for rope in range(len(desk.now.net.ropes))]))


class AgainstTheModel(Case):

    def check(self, desk, model):
        self.assertEqual(place_of(desk.now), model.now)
        self.assertEqual((desk.done, desk.log(), desk.redo_list()), (len(model.log), model.log, model.gone))
        self.assertEqual(desk.marks(), sorted(model.marks))
        self.assertEqual(desk.home, model.home)
        self.assertEqual(desk.goal and place_of(desk.goal), model.goal)
        self.assertEqual(list(desk.story()), [(step, *ride) for step, ride in enumerate(model.log)])
        for rope in range(len(model.net.ropes)):
            self.assertEqual(desk.runs_of(rope), sum(1 for other, _ in model.log if other == rope))

    def deed(self, desk, model, word, *values):
        """The same deed at both; the desk raises what the model refuses, and is as before then."""
        before = seen(desk)
        try:
            getattr(model, word)(*values)
        except Refused as refused:
            name, *worth = refused.args
            self.fails(lambda: getattr(desk, word)(*values), getattr(errors, name), *worth)
            self.assertEqual(seen(desk), before)
        else:
            self.assertIsNone(getattr(desk, word)(*values))
        self.check(desk, model)

    def some_values(self, model, word, rng):
        if word == "take":
            found = [ride for ride, _ in moves(model.net, model.now)]
            return rng.choice(found if found and rng.randrange(4) else all_rides(model.net))
        if word == "attempt":
            rides = some_row(model.net, model.now, rng.randrange(4), rng)[0]
            if not rng.randrange(3):
                rides.insert(rng.randrange(len(rides) + 1), rng.choice(all_rides(model.net)))
            return (rides,)
        if word in ("mark", "back_to"):
            return (rng.choice(NAMES),)
        return ()

    def test_deeds_by_chance(self):
        rng = Random(68)
        words = ["take"] * 5 + ["undo"] * 3 + ["redo"] * 2 + ["attempt"] * 2 + ["mark"] * 2 + ["back_to"]
        for net in SMALL_NETS[1:] + CIRCLES + [great_net(), great_tree()]:
            for totals in ((1, 0), (2, 2)):
                place = some_place(net, *totals, rng)
                desk, model = Desk(standing_of(net, place)), Model(net, place)
                for _ in range(40):
                    word = rng.choice(words)
                    self.deed(desk, model, word, *self.some_values(model, word, rng))
                self.assertEqual(place_of(standing_of(net, place)), place)

    def test_goals_and_homes_by_chance(self):
        rng = Random(69)
        for net in SMALL_NETS[1:]:
            place = some_place(net, 1, 1, rng)
            kind = sorted(steps_from(net, place))
            desk, model = Desk(standing_of(net, place)), Model(net, place)
            self.assertIsNone(desk.left())
            for _ in range(12):
                goal = rng.choice(kind + [None])
                there = goal and standing_of(net, goal)
                model.set_goal(goal)
                if rng.randrange(2):
                    desk.set_goal(there)
                else:
                    desk.goal = there
                model.home = rng.randrange(net.stations)
                if rng.randrange(2):
                    desk.move_home(model.home)
                else:
                    desk.home = model.home
                self.check(desk, model)
                self.deed(desk, model, "attempt", some_row(net, model.now, 3, rng)[0])
                if goal is None:
                    self.assertIsNone(desk.left())
                else:
                    self.assertEqual(desk.left(), floor_number(desk.now, there))
                    if net.is_tree or net.is_ring:
                        self.assertEqual(desk.left(), model.distance())


class Deeds(Case):

    def test_at_first(self):
        desk = row_desk()
        self.assertEqual((desk.now, desk.done, desk.goal, desk.home), (row_desk().now, 0, None, 0))
        self.assertEqual((desk.log(), desk.redo_list(), desk.marks(), list(desk.story())), ([], [], [], []))
        self.assertIsNone(desk.left())

    def test_take(self):
        desk = row_desk()
        self.assertIsNone(desk.take(*GO))
        self.assertEqual((desk.log(), desk.now.reds), ([GO], (1, 1, 0, 0)))
        before = seen(desk)
        for rope in (-1, 3, FAR):
            self.fails(lambda: desk.take(rope, "green"), NoRope, rope)
        for word in ("", "green", "both"):
            self.fails(lambda: desk.take(0, word), NoColour, word)
        self.fails(lambda: desk.take(2, "red"), NoRide, 2, "red")
        self.assertEqual(seen(desk), before)

    def test_undo_and_redo(self):
        desk = row_desk()
        self.fails(desk.undo, NothingToUndo)
        self.fails(desk.redo, NothingToRedo)
        desk.attempt([GO, ON, (2, "red")])
        places = [place_of(desk.now)]
        for _ in range(3):
            desk.undo()
            places.append(place_of(desk.now))
        self.assertEqual(desk.redo_list(), [(2, "red"), ON, GO])
        self.fails(desk.undo, NothingToUndo)
        self.assertEqual(desk.redo_list(), [(2, "red"), ON, GO])
        for place in places[-2::-1]:
            self.assertIsNone(desk.redo())
            self.assertEqual(place_of(desk.now), place)
        self.assertEqual((desk.log(), desk.redo_list()), ([GO, ON, (2, "red")], []))
        self.fails(desk.redo, NothingToRedo)

    def test_a_ride_empties_the_redo_list(self):
        desk = row_desk()
        desk.attempt([GO, ON])
        desk.undo()
        desk.undo()
        self.fails(lambda: desk.take(1, "red"), NoRide, 1, "red")
        self.assertEqual(desk.redo_list(), [ON, GO])
        desk.take(*GO)
        self.assertEqual(desk.redo_list(), [])
        self.fails(desk.redo, NothingToRedo)

    def test_attempt(self):
        desk = row_desk()
        desk.attempt([GO])
        desk.mark("here")
        desk.undo()
        before = seen(desk)
        for rides, step in (([ON], 0), ([GO, (2, "red")], 1), ([GO, ON, ON, (2, "red")], 3)):
            kept = list(rides)
            self.fails(lambda: desk.attempt(rides), BrokenRow, step, *rides[step])
            self.assertEqual((seen(desk), rides), (before, kept))
        self.fails(lambda: desk.attempt([ON, (3, "red")]), NoRope, 3)
        self.fails(lambda: desk.attempt([ON, (0, "green"), (3, "red")]), NoColour, "green")
        self.assertIsNone(desk.attempt([]))
        self.assertEqual(seen(desk), before)
        self.assertEqual(desk.redo_list(), [GO])
        rides = [GO, ON]
        self.assertIsNone(desk.attempt(rides))
        self.assertEqual((desk.log(), desk.redo_list()), ([GO, ON], []))
        rides.append("spoilt")
        self.assertEqual(desk.log(), [GO, ON])

    def test_marks(self):
        desk = row_desk()
        self.assertIsNone(desk.mark("begin"))
        desk.attempt([GO, ON])
        desk.mark("middle")
        desk.mark("")
        desk.attempt([(2, "red"), (2, "red")])
        desk.mark("end")
        self.assertEqual(desk.marks(), ["", "begin", "end", "middle"])
        self.assertIsNone(desk.back_to("middle"))
        self.assertEqual((desk.done, desk.marks()), (2, ["", "begin", "middle"]))
        self.assertEqual(desk.redo_list(), [(2, "red"), (2, "red")])
        desk.redo()
        desk.redo()
        self.assertEqual((desk.done, desk.marks()), (4, ["", "begin", "middle"]))
        self.fails(lambda: desk.back_to("end"), NoMark, "end")
        desk.back_to("")
        self.assertEqual((desk.done, desk.marks()), (2, ["", "begin", "middle"]))
        desk.undo()
        self.assertEqual(desk.marks(), ["begin"])
        desk.back_to("begin")
        self.assertEqual((desk.done, desk.marks(), desk.now), (0, ["begin"], row_desk().now))
        desk.back_to("begin")
        self.assertEqual((desk.done, desk.marks()), (0, ["begin"]))

    def test_a_mark_put_twice(self):
        desk = row_desk()
        desk.attempt([GO, ON])
        desk.mark("x")
        desk.take(2, "red")
        desk.mark("x")
        self.assertEqual(desk.marks(), ["x"])
        desk.take(2, "red")
        desk.back_to("x")
        self.assertEqual(desk.done, 3)
        desk.undo()
        self.assertEqual(desk.marks(), [])
        self.fails(lambda: desk.back_to("x"), NoMark, "x")
        # Put again at a smaller length, it is not forgotten when the later ride is undone.
        desk.mark("y")
        desk.take(2, "red")
        desk.undo()
        self.assertEqual(desk.marks(), ["y"])

    def test_no_mark(self):
        desk = row_desk()
        desk.take(*GO)
        before = seen(desk)
        for name in NAMES:
            self.fails(lambda: desk.back_to(name), NoMark, name)
        self.assertEqual(seen(desk), before)

    def test_goals(self):
        desk = row_desk()
        goal = standing_of(desk.now.net, walked(desk.now.net, place_of(desk.now), [GO, ON]))
        apart = Standing(desk.now.net, [2, 0, 0, 0], [0, 0, 1, 0], [0, 0, 0])
        for assign in (desk.set_goal, lambda value: setattr(desk, "goal", value)):
            assign(goal)
            self.assertEqual((desk.goal, desk.left()), (goal, 2))
            before = seen(desk)
            for net in (Net.row(3), great_net(), Net(4, [(1, 0), (1, 2), (2, 3)])):
                other = Standing.gathered(net, 2, 1)
                self.fails(lambda: assign(other), OtherNet)
            self.fails(lambda: assign(apart), Apart, difference_of(desk.now, apart))
            self.assertNotEqual(difference_of(desk.now, apart), difference_of(apart, desk.now))
            self.assertEqual(seen(desk), before)
            assign(None)
            self.assertIsNone(desk.goal)
            self.assertIsNone(desk.left())

    def test_homes(self):
        desk = row_desk()
        for assign in (desk.move_home, lambda value: setattr(desk, "home", value)):
            for station in range(4):
                assign(station)
                self.assertEqual((desk.home, desk.rank()), (station, kind_rank(desk.now, station)))
            before = seen(desk)
            for station in (-1, 4, FAR, -FAR):
                self.fails(lambda: assign(station), NoStation, station)
            self.assertEqual(seen(desk), before)

    def test_what_cannot_be_assigned(self):
        desk = row_desk()
        for name in ("now", "done"):
            with self.assertRaises(AttributeError):
                setattr(desk, name, 3)


class Telling(Case):

    def test_rank(self):
        rng = Random(70)
        for net in TREES + [great_tree()]:
            desk = Desk(standing_of(net, some_place(net, 2, 2, rng)))
            desk.move_home(rng.randrange(net.stations))
            rank = desk.rank()
            for _ in range(10):
                found = moves(net, place_of(desk.now))
                if found:
                    desk.take(*rng.choice(found)[0])
                self.assertEqual(desk.rank(), rank)
        for net in RINGS + OTHERS + [great_net()]:
            self.fails(Desk(Standing.gathered(net, 1, 1)).rank, NotATree)

    def test_runs(self):
        desk = row_desk()
        desk.attempt([GO, ON, ON, GO, GO])
        self.assertEqual([desk.runs_of(rope) for rope in range(3)], [3, 2, 0])
        for rope in (-1, 3, FAR):
            self.fails(lambda: desk.runs_of(rope), NoRope, rope)

    def test_probe(self):
        desk = row_desk()
        desk.take(*GO)
        desk.undo()
        before = seen(desk)
        self.assertEqual(place_of(desk.probe([GO, ON])), walked(desk.now.net, place_of(desk.now), [GO, ON]))
        self.assertEqual(desk.probe([]), desk.now)
        self.fails(lambda: desk.probe([GO, (2, "red")]), BrokenRow, 1, 2, "red")
        self.fails(lambda: desk.probe([(2, "red"), (3, "red")]), NoRope, 3)
        self.fails(lambda: desk.probe([(2, "red"), (0, "x"), (3, "red")]), NoColour, "x")
        self.assertEqual(seen(desk), before)

    def test_story(self):
        desk = row_desk()
        desk.attempt([GO, ON])
        story = desk.story()
        desk.take(2, "red")
        desk.undo()
        desk.undo()
        # The log is the one at the time of the first item.
        self.assertEqual(list(story), [(0, 0, "red")])
        desk.redo()
        self.assertEqual(list(desk.story()), [(0, 0, "red"), (1, 1, "red")])
        self.assertEqual(next(desk.story()), (0, 0, "red"))

    def test_returned_lists_are_new(self):
        desk = row_desk()
        desk.attempt([GO, ON])
        desk.mark("m")
        desk.undo()
        before = seen(desk)
        for entry in (desk.log, desk.redo_list, desk.marks):
            entry().append("spoilt")
            entry().clear()
        self.assertEqual(seen(desk), before)

    def test_advice_and_finish(self):
        rng = Random(71)
        for net in TREES[1:] + RINGS + [great_tree(), Net.ring(24)]:
            useful, least = (useful_rides, least_row) if net.is_tree else (ring_useful, ring_row)
            for totals in ((1, 1), (3, 2)):
                place = some_place(net, *totals, rng)
                first = standing_of(net, place)
                goal = standing_of(net, some_row(net, place, 60, rng)[1][-1])
                desk, other = Desk(first), Desk(first)
                for there in (desk, other):
                    there.attempt(some_row(net, place, 3, rng)[0])
                    if there.done:
                        there.undo()
                    there.set_goal(goal)
                begin, log = desk.now, desk.log()
                row = desk.finish()
                self.assertEqual((row, desk.now, desk.left()), (least(begin, goal), goal, 0))
                self.assertEqual(desk.log(), log + row)
                self.assertIsNone(desk.advice())
                if row:
                    self.assertEqual(desk.redo_list(), [])
                taken = []
                while other.now != goal:
                    advice = other.advice()
                    self.assertEqual(advice, useful(other.now, goal)[0])
                    left = other.left()
                    other.take(*advice)
                    self.assertEqual(other.left(), left - 1)
                    taken.append(advice)
                self.assertIsNone(other.advice())
                row.append("spoilt")
                self.assertNotIn("spoilt", desk.log())

    def test_finish_at_the_goal(self):
        for net in (Net.row(4), Net.ring(4), Net(1, [])):
            desk = Desk(Standing.gathered(net, 2, 1))
            if net.ropes:
                desk.take(*GO)
                desk.undo()
            desk.set_goal(desk.now)
            before = seen(desk)
            self.assertEqual((desk.finish(), desk.advice()), ([], None))
            self.assertEqual(seen(desk), before)
            self.assertEqual(desk.redo_list(), [GO] if net.ropes else [])

    def test_errors_of_advice_and_finish(self):
        for net in OTHERS + CIRCLES + [great_net()]:
            desk = Desk(Standing.gathered(net, 1, 1))
            for entry in (desk.advice, desk.finish):
                self.fails(entry, NotExact)
            desk.set_goal(desk.now)
            for entry in (desk.advice, desk.finish):
                self.fails(entry, NotExact)
            self.assertEqual(desk.left(), 0)
        for net in (Net.row(4), Net.ring(4), Net(1, [])):
            desk = Desk(Standing.gathered(net, 1, 1))
            before = seen(desk)
            for entry in (desk.advice, desk.finish):
                self.fails(entry, NoGoal)
            desk.set_goal(desk.now)
            desk.set_goal(None)
            for entry in (desk.advice, desk.finish):
                self.fails(entry, NoGoal)
            self.assertEqual(seen(desk), before)

    def test_a_long_log(self):
        desk = Desk(standing_of(great_net(), some_place(great_net(), 15, 15, Random(72))))
        ride = moves(desk.now.net, place_of(desk.now))[0][0]
        begin = desk.now
        desk.attempt([ride] * 5000)
        self.assertEqual((desk.done, desk.now), (5000, begin))
        desk.mark("far")
        for _ in range(20):
            desk.undo()
        self.assertEqual((desk.done, desk.marks(), len(desk.redo_list())), (4980, [], 20))
        self.assertEqual(desk.runs_of(ride[0]), 4980)


if __name__ == "__main__":
    unittest.main()
