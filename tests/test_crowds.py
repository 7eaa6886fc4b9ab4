"""Points 52 and 53: crowds and named rides."""

import unittest
from random import Random

from case import FAR, Case
from crowd_oracle import camp_of, crowd_of, named_moves, named_walked, some_camp, some_named_row
from oracle import OTHERS, RINGS, TREES, great_net, great_tree
from twinrope.crowds import Crowd, ride_named, walk_named
from twinrope.errors import (BadName, BadStanding, BrokenNames, NoColour, NoName, NoRope, NoStation, NotHere, TooMany)
from twinrope.nets import Net
from twinrope.rides import after_ride, can_ride, walk
from twinrope.standings import Standing

NET = Net(3, [(0, 1), (2, 1)])
BAD_NAMES = ["", "abcdefghi", "a" * 100, "A", "aB", "a1", "1", "a b", " a", "a ", "a-b", "a_b", "a.", "\n", "a\n",
             "\u00e9", "a\u00e9", "\u0430", "\u00df", "\u00aa"]
NAMES = ["ann", "ben", "cid", "dan", "eva", "fay", "gus", "hal", "ida", "jim", "kay", "leo"]


def crowd():
    return Crowd(NET, [0, 1], [("eva", 1), ("ann", 0)], [("zoe", 2), ("bob", 0)])


class Crowds(Case):

    def test_what_it_tells(self):
        here = crowd()
        self.assertEqual((here.net, here.cars), (NET, (0, 1)))
        self.assertEqual((here.reds, here.blues), ((("ann", 0), ("eva", 1)), (("bob", 0), ("zoe", 2))))
        self.assertEqual((here.names("red"), here.names("blue")), (["ann", "eva"], ["bob", "zoe"]))
        self.assertEqual([here.place_of(name) for name in ("ann", "bob", "eva", "zoe")], [0, 0, 1, 2])
        self.assertEqual([here.colour_of(name) for name in ("ann", "bob", "eva", "zoe")], ["red", "blue"] * 2)
        self.assertEqual(len(here), 4)
        self.assertEqual(here.standing(), Standing(NET, [1, 1, 0], [1, 0, 1], [0, 1]))
        for name in ("ann", "bob", "eva", "zoe"):
            self.assertIs(name in here, True)
        for name in ("", "an", "annn", "Ann", "max", "red", "0"):
            self.assertIs(name in here, False)

    def test_no_guests(self):
        here = Crowd(NET, [0, 1], [], [])
        self.assertEqual((len(here), here.reds, here.blues, here.names("red")), (0, (), (), []))
        self.assertEqual(here.standing(), Standing(NET, [0] * 3, [0] * 3, [0, 1]))
        self.assertIs("ann" in here, False)
        alone = Crowd(Net(1, []), [], [("ann", 0)], [])
        self.assertEqual((alone.standing(), alone.cars), (Standing(Net(1, []), [1], [0], []), ()))

    def test_it_keeps_what_it_is_given(self):
        cars, reds, blues = [0, 1], [("eva", 1), ("ann", 0)], [("zoe", 2), ("bob", 0)]
        here = Crowd(NET, cars, reds, blues)
        cars[0] = 1
        reds.append(("max", 0))
        blues.clear()
        self.assertEqual(here, crowd())
        self.assertEqual((here.names("red"), len(here)), (["ann", "eva"], 4))

    def test_the_arguments_stay(self):
        cars, reds, blues = [0, 1], [("eva", 1), ("ann", 0)], [("zoe", 2), ("bob", 0)]
        Crowd(NET, cars, reds, blues)
        self.assertEqual((cars, reds, blues),
                         ([0, 1], [("eva", 1), ("ann", 0)], [("zoe", 2), ("bob", 0)]))

    def test_returned_lists_are_new(self):
        here = crowd()
        here.names("red").append("spoilt")
        self.assertEqual(here.names("red"), ["ann", "eva"])

    def test_twelve_guests_and_thirteen(self):
        guests = [(name, k % 3) for k, name in enumerate(NAMES)]
        for at in range(13):
            here = Crowd(NET, [0, 0], guests[:at], guests[at:])
            self.assertEqual(len(here), 12)
            self.assertEqual(here.names("red"), sorted(NAMES[:at]))
            self.fails(lambda: Crowd(NET, [0, 0], guests[:at] + [("max", 0)], guests[at:]), TooMany, 12)
            self.fails(lambda: Crowd(NET, [0, 0], guests[:at], guests[at:] + [("max", 2)]), TooMany, 12)

    def test_names(self):
        for name in ("a", "z", "abcdefgh", "zzzzzzzz", "red", "none"):
            here = Crowd(NET, [0, 0], [(name, 2)], [])
            self.assertEqual((here.place_of(name), here.names("red")), (2, [name]))
        for name in BAD_NAMES:
            self.fails(lambda: Crowd(NET, [0, 0], [(name, 0)], []), BadName, name)
            self.fails(lambda: Crowd(NET, [0, 0], [], [(name, 0)]), BadName, name)
            self.fails(lambda: Crowd(NET, [0, 0], [("ann", 0)], [("bob", 0), (name, FAR)]), BadName, name)

    def test_a_name_twice(self):
        self.fails(lambda: Crowd(NET, [0, 0], [("ann", 0), ("bob", 1), ("ann", 0)], []), BadName, "ann")
        self.fails(lambda: Crowd(NET, [0, 0], [], [("ann", 0), ("ann", 2)]), BadName, "ann")
        self.fails(lambda: Crowd(NET, [0, 0], [("bob", 0), ("ann", 0)], [("cid", 1), ("ann", 2)]), BadName, "ann")

    def test_stations(self):
        for station in (-1, 3, FAR, -FAR):
            self.fails(lambda: Crowd(NET, [0, 0], [("ann", station)], []), NoStation, station)
            self.fails(lambda: Crowd(NET, [0, 0], [("ann", 0)], [("bob", station)]), NoStation, station)

    def test_cars(self):
        for cars, place in (([], -1), ([0], -1), ([0, 0, 0], -1), ([2, 0], 0), ([0, -1], 1), ([0, FAR], 1)):
            self.fails(lambda: Crowd(NET, cars, [("ann", 0)], []), BadStanding, "cars", place)
            self.fails(lambda: Crowd(NET, cars, [("", 9)], [("", 9)]), BadStanding, "cars", place)

    def test_two_faults_at_once(self):
        many = [(name, 0) for name in NAMES]
        self.fails(lambda: Crowd(NET, [0, 0], [("ann", 9), ("", 0)], []), NoStation, 9)
        self.fails(lambda: Crowd(NET, [0, 0], [("", 9), ("ann", 7)], []), BadName, "")
        self.fails(lambda: Crowd(NET, [0, 0], [("ann", 9)], [("ann", 0)]), NoStation, 9)
        self.fails(lambda: Crowd(NET, [0, 0], [("ann", 0)], [("ann", 9), ("", 8)]), BadName, "ann")
        self.fails(lambda: Crowd(NET, [0, 0], [], [("bob", -2), ("B", 0)]), NoStation, -2)
        self.fails(lambda: Crowd(NET, [0, 0], many + [("max", 3)], []), NoStation, 3)
        self.fails(lambda: Crowd(NET, [0, 0], many, [("ann", 0)]), BadName, "ann")
        self.fails(lambda: Crowd(NET, [0, 2], many, [("max", 0)]), BadStanding, "cars", 1)

    def test_words_that_are_no_colour(self):
        for word in ("", "Red", "green", "both", "ann"):
            self.fails(lambda: crowd().names(word), NoColour, word)

    def test_names_of_nobody(self):
        for name in ("", "max", "Ann", "ann "):
            self.fails(lambda: crowd().place_of(name), NoName, name)
            self.fails(lambda: crowd().colour_of(name), NoName, name)

    def test_equality(self):
        here = crowd()
        self.assertTrue(here == crowd())
        self.assertTrue(here == Crowd(Net(3, [(0, 1), (2, 1)]), [0, 1], [("ann", 0), ("eva", 1)],
                                      [("bob", 0), ("zoe", 2)]))
        parts = [NET, [0, 1], [("ann", 0), ("eva", 1)], [("bob", 0), ("zoe", 2)]]
        for at, other in ((0, Net(3, [(0, 1), (1, 2)])), (0, Net(4, [(0, 1), (2, 1), (2, 3)])), (1, [1, 1]),
                          (1, [0, 0]), (2, [("ann", 1), ("eva", 1)]), (2, [("ann", 0), ("evi", 1)]), (2, [("ann", 0)]),
                          (2, [("ann", 1), ("eva", 0)]), (3, [("bob", 0)]), (3, [("bob", 0), ("zoe", 1)]),
                          (3, [("bob", 0), ("zoe", 2), ("max", 0)]), (3, [])):
            changed = list(parts)
            changed[at] = other
            if len(changed[0].ropes) == 3:
                changed[1] = [0, 1, 0]
            there = Crowd(*changed)
            self.assertIs(here == there, False)
            self.assertIs(here != there, True)
        exchanged = Crowd(NET, [0, 1], [("bob", 0), ("zoe", 2)], [("ann", 0), ("eva", 1)])
        self.assertIs(here == exchanged, False)
        for other in (None, 0, "crowd", (), [], here.standing(), NET, camp_of(here), here.reds):
            self.assertIs(here == other, False)
            self.assertIs(here != other, True)


class NamedRides(Case):

    def test_rides_against_those_of_the_standings(self):
        rng = Random(53)
        for net in TREES + RINGS + OTHERS + [great_net(), great_tree()]:
            for reds, blues in (("ab", "c"), ("a", "bcd"), ("", "ab"), ("ace", "bd")):
                camp = some_camp(net, reds, blues, rng)
                here = crowd_of(net, camp)
                possible = dict(named_moves(net, camp))
                for rope in range(len(net.ropes)):
                    for name in reds + blues:
                        if (rope, name) in possible:
                            there = ride_named(here, rope, name)
                            self.assertEqual(camp_of(there), possible[rope, name])
                            colour = here.colour_of(name)
                            self.assertEqual(there.standing(), after_ride(here.standing(), rope, colour))
                        else:
                            self.fails(lambda: ride_named(here, rope, name), NotHere, rope, name)
                self.assertEqual(camp_of(here), camp)

    def test_a_guest_beside_another_one_of_the_colour(self):
        # The car is where "ann" is, so a ride of the colour is possible, but not for "eva".
        here = crowd()
        self.assertTrue(can_ride(here.standing(), 0, "red"))
        self.fails(lambda: ride_named(here, 0, "eva"), NotHere, 0, "eva")
        self.assertEqual(ride_named(here, 0, "ann").reds, (("ann", 1), ("eva", 1)))

    def test_order_of_errors(self):
        here = crowd()
        for rope in (-1, 2, FAR):
            self.fails(lambda: ride_named(here, rope, "max"), NoRope, rope)
        for name in ("", "max", "ANN"):
            self.fails(lambda: ride_named(here, 1, name), NoName, name)
        self.fails(lambda: ride_named(here, 1, "ann"), NotHere, 1, "ann")

    def test_walks(self):
        rng = Random(54)
        for net in TREES + RINGS + OTHERS + [great_net()]:
            camp = some_camp(net, "ab", "cd", rng)
            rides, last = some_named_row(net, camp, 20, rng)
            here = crowd_of(net, camp)
            found = walk_named(here, rides)
            self.assertEqual(len(found), len(rides) + 1)
            self.assertEqual(found[0], here)
            self.assertEqual(camp_of(found[-1]), last)
            for step in range(len(rides)):
                self.assertEqual(camp_of(found[step + 1]), named_walked(net, camp, rides[:step + 1]))
            colours = [(rope, here.colour_of(name)) for rope, name in rides]
            self.assertEqual([there.standing() for there in found], walk(here.standing(), colours))
            self.assertEqual(walk_named(here, []), [here])

    def test_a_long_walk_of_twelve(self):
        net = great_net()
        camp = some_camp(net, "abcdef", "ghijkl", Random(55))
        rides, last = some_named_row(net, camp, 250, Random(56))
        rides = rides + [rides[-1]] * 2
        self.assertEqual(camp_of(walk_named(crowd_of(net, camp), rides * 1)[-1]), last)
        far = rides[:1] * 5000
        self.assertEqual(len(walk_named(crowd_of(net, camp), far)), 5001)

    def test_errors_of_walks(self):
        here = crowd()
        go = (0, "ann")
        self.fails(lambda: walk_named(here, [go, go, (0, "eva")]), BrokenNames, 2, 0, "eva")
        self.fails(lambda: walk_named(here, [(1, "ann"), (1, "ann")]), BrokenNames, 0, 1, "ann")
        self.fails(lambda: walk_named(here, [(1, "ann"), (2, "ann")]), NoRope, 2)
        self.fails(lambda: walk_named(here, [(1, "ann"), (1, "max")]), NoName, "max")
        self.fails(lambda: walk_named(here, [(0, "max"), (-1, "ann")]), NoName, "max")
        self.fails(lambda: walk_named(here, [(-1, "max"), (0, "leo")]), NoRope, -1)
        self.fails(lambda: walk_named(here, [go, (FAR, "max")]), NoRope, FAR)

    def test_returned_lists_are_new(self):
        here = crowd()
        rides = [(0, "ann"), (0, "ann")]
        found = walk_named(here, rides)
        found.clear()
        self.assertEqual(len(walk_named(here, rides)), 3)
        self.assertEqual(rides, [(0, "ann"), (0, "ann")])


if __name__ == "__main__":
    unittest.main()
