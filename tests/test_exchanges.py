"""Points 55 and 56: guests that change places, and plans with names."""

import unittest
from random import Random

from case import Case
from crowd_oracle import (camp_of, crowd_of, named_kind, named_walked, place_without_names, some_camp, some_named_row,
                          swapped)
from oracle import (CIRCLES, OTHERS, RINGS, TREES, great_net, great_tree, joined, guests_somewhere, ropes_that_run,
                    shortest_meeting, steps_from)
from twinrope.arrows import can_meet, live_parts
from twinrope.companions import companions, named_difference
from twinrope.crowds import Crowd
from twinrope.errors import CanMeet, NamesApart, NoExchange, NoName, OtherNet
from twinrope.exchanges import border_of, exchange_row, named_plan
from twinrope.floors import floor_number
from twinrope.marks import border_holds, marks_hold
from twinrope.nets import Net

SMALL = TREES + RINGS + OTHERS + CIRCLES + [Net.row(5), Net.star(5)]
GREAT = [great_net(), great_tree(), Net.ring(24), Net.row(24), Net.star(24)]
TEAMS = [("ab", ""), ("ab", "c"), ("ac", "b"), ("abd", "c"), ("", "abc"), ("abcd", ""), ("cd", "ab")]


class Exchange(Case):

    def check(self, net, camp, one, other):
        here = crowd_of(net, camp)
        row = exchange_row(here, one, other)
        self.assertEqual(named_walked(net, camp, row), swapped(camp, one, other))
        self.assertLessEqual(len(row), 100 * net.stations)
        place = dict(camp[1] + camp[2])
        if place[one] == place[other]:
            self.assertEqual(row, [])
        self.assertEqual(camp_of(here), camp)

    def test_all_pairs_on_small_nets(self):
        rng = Random(55)
        for net in SMALL:
            for reds, blues in TEAMS:
                for _ in range(4):
                    camp = some_camp(net, reds, blues, rng)
                    here = crowd_of(net, camp)
                    for one in reds + blues:
                        able = companions(here, one) + [one]
                        for other in reds + blues:
                            if other in able:
                                self.check(net, camp, one, other)
                            else:
                                self.fails(lambda: exchange_row(here, one, other), NoExchange, one, other)

    def test_an_exchange_exists_exactly_if_a_search_finds_one(self):
        rng = Random(56)
        for net in [Net.row(4), Net.star(4)] + RINGS[2:] + OTHERS[:3]:
            for reds, blues in (("ab", "c"), ("abc", "")):
                camp = some_camp(net, reds, blues, rng)
                kind = named_kind(net, camp)
                for other in reds[1:]:
                    if swapped(camp, "a", other) in kind:
                        self.check(net, camp, "a", other)
                    else:
                        self.fails(lambda: exchange_row(crowd_of(net, camp), "a", other), NoExchange, "a", other)

    def test_twelve_on_great_nets(self):
        rng = Random(57)
        for net in GREAT:
            for reds, blues in (("abcdefghijkl", ""), ("", "abcdefghijkl"), ("abcdef", "ghijkl"), ("abcdefghijk", "l")):
                camp = some_camp(net, reds, blues, rng)
                here = crowd_of(net, camp)
                for one in (reds + blues)[::3]:
                    for other in companions(here, one)[::2]:
                        self.check(net, camp, one, other)

    def test_the_same_guest_and_two_at_one_station(self):
        here = Crowd(Net.row(3), [0, 1], [("ann", 0), ("bob", 0)], [("cid", 1), ("dan", 1)])
        self.assertTrue(can_meet(here.standing()))
        for one, other in (("ann", "ann"), ("ann", "bob"), ("cid", "dan"), ("dan", "dan")):
            self.assertEqual(exchange_row(here, one, other), [])
        alone = Crowd(Net(1, []), [], [("ann", 0), ("bob", 0)], [])
        self.assertEqual(exchange_row(alone, "bob", "ann"), [])

    def test_a_part_with_one_rope(self):
        for car in (0, 1):
            camp = (car,), (("ann", 0), ("bob", 1)), ()
            self.check(Net.row(2), camp, "ann", "bob")
            self.check(Net.row(2), camp, "bob", "ann")
            self.check(Net.row(2), ((car,), (), camp[1]), "bob", "ann")

    def test_both_ends_of_a_live_part(self):
        # All are red, and each rope leads away from the middle, where the only guest stands who can ride at first.
        for size in (3, 5, 7, 9, 23):
            middle = size // 2
            camp = (tuple(int(rope < middle) for rope in range(size - 1)),
                    (("ann", 0), ("bob", middle), ("cid", size - 1)), ())
            self.check(Net.row(size), camp, "ann", "cid")
            self.check(Net.row(size), (tuple(1 - car for car in camp[0]), (), camp[1]), "ann", "cid")

    def test_a_long_chain_of_guests(self):
        # Ropes lead from every other guest to both sides, so the first and the last meet only with the help of all.
        for size in (5, 9, 13, 21):
            cars = tuple(int(rope % 4 in (0, 1)) for rope in range(size - 1))
            stations = [0] + list(range(2, size, 4)) + [size - 1]
            guests = tuple((chr(97 + at), station) for at, station in enumerate(stations))
            last = guests[-1][0]
            for camp in ((cars, guests, ()), (tuple(1 - car for car in cars), (), guests)):
                self.assertEqual(live_parts(crowd_of(Net.row(size), camp).standing()), [list(range(size))])
                self.check(Net.row(size), camp, "a", last)
                self.check(Net.row(size), camp, last, "a")

    def test_a_guest_of_the_other_colour_in_the_way(self):
        net = Net.row(3)
        for cars in ((0, 0), (0, 1), (1, 0), (1, 1)):
            camp = cars, (("ann", 0), ("bob", 2)), (("cid", 1),)
            if can_meet(crowd_of(net, camp).standing()):
                self.check(net, camp, "ann", "bob")
            else:
                self.fails(lambda: exchange_row(crowd_of(net, camp), "ann", "bob"), NoExchange, "ann", "bob")

    def test_errors(self):
        here = Crowd(Net.row(4), [1, 0, 0], [("ann", 0), ("bob", 3)], [("cid", 2)])
        self.fails(lambda: exchange_row(here, "max", "leo"), NoName, "max")
        self.fails(lambda: exchange_row(here, "ann", "leo"), NoName, "leo")
        self.fails(lambda: exchange_row(here, "max", "max"), NoName, "max")
        self.fails(lambda: exchange_row(here, "", "cid"), NoName, "")
        for one, other in (("ann", "cid"), ("cid", "ann"), ("ann", "bob"), ("bob", "ann")):
            self.fails(lambda: exchange_row(here, one, other), NoExchange, one, other)
        together = Crowd(Net.row(2), [0], [("ann", 0)], [("cid", 0)])
        self.fails(lambda: exchange_row(together, "ann", "cid"), NoExchange, "ann", "cid")

    def test_returned_lists_are_new(self):
        here = Crowd(Net.row(2), [0], [("ann", 0), ("bob", 1)], [])
        kept = list(exchange_row(here, "ann", "bob"))
        exchange_row(here, "ann", "bob").append("spoilt")
        self.assertEqual(exchange_row(here, "ann", "bob"), kept)


class Border(Case):

    def test_small_and_great_nets(self):
        rng = Random(58)
        for net in SMALL + GREAT:
            for reds, blues in TEAMS:
                camp = some_camp(net, reds, blues, rng)
                here = crowd_of(net, camp)
                for name in reds + blues:
                    way = shortest_meeting(net, place_without_names(net, camp))
                    if way is not None:
                        self.fails(lambda: border_of(here, name), CanMeet, way[0])
                        continue
                    marks, stations = border_of(here, name)
                    self.assertIs(border_holds(here.standing(), marks, stations), True)
                    self.assertIs(marks_hold(here.standing(), marks), True)
                    self.assertIn(here.place_of(name), stations)
                    self.assertIn(stations, live_parts(here.standing()))

    def test_the_part_is_that_of_a_search(self):
        rng = Random(59)
        for net in TREES + RINGS + [Net.row(5)]:
            for reds, blues in (("a", ""), ("a", "b"), ("ab", "")):
                camp = some_camp(net, reds, blues, rng)
                here = crowd_of(net, camp)
                if not can_meet(here.standing()):
                    kind = steps_from(net, place_without_names(net, camp))
                    run = [net.ropes[rope] for rope in ropes_that_run(net, kind)]
                    parts = joined(guests_somewhere(kind), run)
                    for name in reds + blues:
                        part = [part for part in parts if here.place_of(name) in part][0]
                        self.assertEqual(border_of(here, name)[1], part)

    def test_errors(self):
        met = Crowd(Net.row(3), [0, 0], [("ann", 0), ("bob", 1)], [("cid", 2)])
        self.fails(lambda: border_of(met, "max"), NoName, "max")
        self.fails(lambda: border_of(met, "cid"), CanMeet, 1)
        apart = Crowd(Net.row(3), [0, 0], [("ann", 2)], [("cid", 0)])
        self.fails(lambda: border_of(apart, ""), NoName, "")
        self.assertEqual(border_of(apart, "ann")[1], [2])

    def test_returned_lists_are_new(self):
        apart = Crowd(Net.row(3), [0, 0], [("ann", 2)], [("cid", 0)])
        border_of(apart, "ann")[1].append("spoilt")
        self.assertEqual(border_of(apart, "ann")[1], [2])


class Plans(Case):

    def check(self, net, one, two):
        first, second = crowd_of(net, one), crowd_of(net, two)
        row = named_plan(first, second)
        self.assertEqual(named_walked(net, one, row), two)
        least = floor_number(first.standing(), second.standing())
        self.assertLessEqual(len(row), 4 * net.stations * least + 1200 * net.stations)
        self.assertEqual((camp_of(first), camp_of(second)), (one, two))

    def test_small_nets(self):
        rng = Random(60)
        for net in SMALL:
            for reds, blues in TEAMS:
                camp = some_camp(net, reds, blues, rng)
                _, after = some_named_row(net, camp, 30, rng)
                self.check(net, camp, after)
                self.check(net, after, camp)
                self.assertEqual(named_plan(crowd_of(net, camp), crowd_of(net, camp)), [])

    def test_all_of_a_kind(self):
        rng = Random(61)
        for net in (Net.row(4), Net.ring(3), CIRCLES[0]):
            for reds, blues in (("ab", "c"), ("abc", "")):
                camp = some_camp(net, reds, blues, rng)
                for after in sorted(named_kind(net, camp))[::7]:
                    self.check(net, camp, after)

    def test_guests_that_have_only_changed_places(self):
        rng = Random(62)
        for net in (Net.row(5), Net.star(6), Net.ring(5), great_net()):
            for reds, blues in (("abcdef", ""), ("abcd", "efgh")):
                camp = some_camp(net, reds, blues, rng)
                here = crowd_of(net, camp)
                after = camp
                for one in reds + blues:
                    for other in companions(here, one):
                        if rng.randrange(2):
                            after = swapped(after, one, other)
                self.assertIsNone(named_difference(here, crowd_of(net, after)))
                self.check(net, camp, after)

    def test_twelve_on_great_nets(self):
        rng = Random(63)
        for net in GREAT:
            for reds, blues in (("abcdefghijkl", ""), ("abcdef", "ghijkl"), ("a", "bcdefghijkl")):
                camp = some_camp(net, reds, blues, rng)
                _, after = some_named_row(net, camp, 200, rng)
                self.check(net, camp, after)

    def test_names_apart(self):
        net = Net.row(3)
        one = Crowd(net, [0, 0], [("ann", 0), ("eva", 2)], [("bob", 2)])
        for two, why in ((Crowd(net, [0, 0], [("ann", 0)], [("bob", 2)]), ("names", "red")),
                         (Crowd(net, [0, 0], [("ann", 0), ("eva", 2)], [("bea", 2)]), ("names", "blue")),
                         (Crowd(net, [0, 0], [("ann", 0), ("eva", 1)], [("bob", 2)]), ("book", 1, -1, 0))):
            self.fails(lambda: named_plan(one, two), NamesApart, why)
        circle = [Crowd(CIRCLES[1], [1, 1, car, car, car], [("ann", 0)], []) for car in (0, 1)]
        self.fails(lambda: named_plan(*circle), NamesApart, ("rope", 2))
        parted = [Crowd(net, [1, 0], list(zip(names, (0, 2))), []) for names in (("ann", "eva"), ("eva", "ann"))]
        self.fails(lambda: named_plan(*parted), NamesApart, named_difference(*parted))
        apart = [Crowd(Net.row(4), [1, 0, 0], list(zip(names, (0, 3))), []) for names in ("ab", "ba")]
        self.fails(lambda: named_plan(*apart), NamesApart, ("guest", "a"))

    def test_other_nets(self):
        one = Crowd(Net.row(3), [0, 0], [("ann", 0)], [])
        two = Crowd(Net.row(2), [0], [("bob", 0)], [])
        self.fails(lambda: named_plan(one, two), OtherNet)


if __name__ == "__main__":
    unittest.main()
