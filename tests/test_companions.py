"""Point 54: kinds of crowds, companions and how many named kinds there are."""

import unittest
from itertools import permutations
from math import comb
from random import Random

from case import Case
from crowd_oracle import (camps_with, crowd_of, named_kind, named_kinds, place_without_names, some_camp,
                          some_named_row, swapped)
from oracle import (CIRCLES, OTHERS, RINGS, TREES, great_net, great_tree, guests_somewhere, joined, ropes_that_run,
                    steps_from)
from twinrope.arrows import live_parts
from twinrope.companions import companions, named_count, named_difference
from twinrope.crowds import Crowd
from twinrope.errors import NoName, OtherNet
from twinrope.kinship import difference_of
from twinrope.nets import Net

NETS = TREES + RINGS + OTHERS[:4] + CIRCLES[:1]
GUESTS = [("", ""), ("a", ""), ("ab", ""), ("b", "a"), ("ac", "b")]
# Four reds in the two parts 0-1 and 3-4, with a dead station between them, and a blue one at the last station.
PARTS = Crowd(Net.row(6), [1, 1, 0, 1, 1], [("eva", 0), ("ann", 1), ("dan", 4), ("bob", 3)], [("zoe", 5)])


def parts_of(net, camp):
    """The live parts, from a search over the standings."""
    kind = steps_from(net, place_without_names(net, camp))
    run = ropes_that_run(net, kind)
    return joined(guests_somewhere(kind), [net.ropes[rope] for rope in run])


def part_of(net, camp, name):
    place = dict(camp[1] + camp[2])[name]
    return [part for part in parts_of(net, camp) if place in part][0]


def difference(net, one, two):
    """The difference of two camps with the same names, by searches."""
    if two in named_kind(net, one):
        return None
    first, second = crowd_of(net, one), crowd_of(net, two)
    why = difference_of(first.standing(), second.standing())
    if why is not None:
        return why
    after = dict(two[1] + two[2])
    return "guest", min(name for name in after if after[name] not in part_of(net, one, name))


class NamedKinds(Case):

    def test_all_kinds_of_small_nets(self):
        rng = Random(54)
        for net in NETS:
            for reds, blues in GUESTS:
                camps = camps_with(net, reds, blues)
                for _ in range(8):
                    one = rng.choice(camps)
                    kind = named_kind(net, one)
                    for two in (rng.choice(camps), rng.choice(sorted(kind)), some_camp(net, reds, blues, rng)):
                        found = named_difference(crowd_of(net, one), crowd_of(net, two))
                        self.assertEqual(found, difference(net, one, two))
                        self.assertIs(found is None, two in kind)

    def test_guests_that_have_changed_places(self):
        # The standings are the same, so only the names can part the crowds.
        rng = Random(55)
        parted = set()
        for net in [Net.row(k) for k in (3, 4, 5)] + CIRCLES + RINGS[2:]:
            for reds, blues in (("ab", ""), ("", "ab"), ("ab", "c"), ("ac", "bd")):
                for _ in range(12):
                    one = some_camp(net, reds, blues, rng)
                    two = one
                    for names in (reds, blues):
                        if len(names) == 2 and rng.randrange(3):
                            two = swapped(two, *names)
                    found = named_difference(crowd_of(net, one), crowd_of(net, two))
                    self.assertEqual(found, difference(net, one, two))
                    parted.add(found)
        self.assertEqual(parted, {None, ("guest", "a"), ("guest", "b")})

    def test_the_order_of_the_differences(self):
        net = Net.row(3)
        one = Crowd(net, [0, 0], [("ann", 0)], [("bob", 2)])
        for two, why in ((Crowd(net, [0, 0], [("ann", 0)], [("bob", 2)]), None),
                         (Crowd(net, [0, 0], [("eva", 1)], [("cid", 2)]), ("names", "red")),
                         (Crowd(net, [0, 0], [("bob", 1)], [("ann", 2)]), ("names", "red")),
                         (Crowd(net, [0, 0], [], [("ann", 2), ("bob", 0)]), ("names", "red")),
                         (Crowd(net, [0, 0], [("ann", 0), ("cid", 0)], [("bob", 2)]), ("names", "red")),
                         (Crowd(net, [0, 0], [("ann", 1)], [("cid", 2)]), ("names", "blue")),
                         (Crowd(net, [0, 0], [("ann", 1)], []), ("names", "blue")),
                         (Crowd(net, [0, 0], [("ann", 1)], [("bob", 2)]), ("book", 0, 0, -1))):
            self.assertEqual(named_difference(one, two), why)
        self.assertEqual(named_difference(Crowd(net, [0, 0], [("b", 0)], []), Crowd(net, [0, 0], [], [("b", 0)])),
                         ("names", "red"))

    def test_the_difference_of_a_rope(self):
        net = CIRCLES[1]
        one = Crowd(net, [1, 1, 0, 0, 0], [("ann", 0)], [])
        two = Crowd(net, [1, 1, 1, 1, 1], [("ann", 0)], [])
        self.assertEqual(named_difference(one, two), ("rope", 2))

    def test_several_live_parts(self):
        self.assertEqual(live_parts(PARTS.standing()), [[0, 1], [3, 4], [5]])
        moved = [("ann", 0), ("bob", 4), ("dan", 3), ("eva", 1)]
        crossed = [("ann", 3), ("bob", 1), ("dan", 4), ("eva", 0)]
        mixed = [("ann", 0), ("bob", 3), ("dan", 1), ("eva", 4)]
        for reds, why in ((moved, None), (crossed, ("guest", "ann")), (mixed, ("guest", "dan"))):
            there = Crowd(PARTS.net, PARTS.cars, reds, PARTS.blues)
            self.assertEqual(named_difference(PARTS, there), why)

    def test_the_least_name_of_either_colour(self):
        # Both colours have changed places; it depends on the net which of them have left their parts.
        net = Net.row(6)
        rng = Random(57)
        found = set()
        for _ in range(3000):
            camp = some_camp(net, ("b", "c"), ("a", "d"), rng)
            other = swapped(swapped(camp, "b", "c"), "a", "d")
            here = crowd_of(net, camp)
            why = named_difference(here, crowd_of(net, other))
            parts = live_parts(here.standing())
            home = {name: [place in part for part in parts] for name, place in camp[1] + camp[2]}
            gone = [name for name, place in other[1] + other[2] if [place in part for part in parts] != home[name]]
            self.assertEqual(why, ("guest", min(gone)) if gone else None)
            found.add(why)
        self.assertEqual(found, {None, ("guest", "a"), ("guest", "b")})

    def test_no_guest_at_all(self):
        for net in TREES + RINGS + OTHERS:
            one = Crowd(net, [0] * len(net.ropes), [], [])
            self.assertIsNone(named_difference(one, one))
            self.assertEqual(named_count(one), 1)
            if net.ropes:
                two = Crowd(net, [1] + [0] * (len(net.ropes) - 1), [], [])
                self.assertEqual(named_difference(one, two), difference_of(one.standing(), two.standing()))

    def test_great_nets(self):
        rng = Random(58)
        for net in (great_net(), great_tree(), Net.ring(24)):
            for reds, blues in (("abcdef", "ghijkl"), ("abcdefghijkl", ""), ("a", "bcdefghijkl")):
                camp = some_camp(net, reds, blues, rng)
                _, last = some_named_row(net, camp, 200, rng)
                self.assertIsNone(named_difference(crowd_of(net, camp), crowd_of(net, last)))

    def test_other_nets(self):
        one = Crowd(Net.row(3), [0, 0], [("ann", 0)], [])
        for net in (Net.row(2), Net(3, [(0, 1), (2, 1)]), Net.ring(3)):
            two = Crowd(net, [0] * len(net.ropes), [("bob", 0)], [])
            self.fails(lambda: named_difference(one, two), OtherNet)


class Companions(Case):

    def test_they_and_no_others_can_change_places(self):
        rng = Random(59)
        for net in NETS + [Net.row(5)]:
            for reds, blues in (("ab", ""), ("ab", "c"), ("b", "ac"), ("", "abc"), ("abc", "")):
                for _ in range(3):
                    camp = some_camp(net, reds, blues, rng)
                    kind = named_kind(net, camp)
                    here = crowd_of(net, camp)
                    for names in (reds, blues):
                        for name in names:
                            able = [other for other in names if other != name and swapped(camp, name, other) in kind]
                            self.assertEqual(companions(here, name), able)

    def test_several_live_parts(self):
        found = {name: companions(PARTS, name) for name in ("ann", "bob", "dan", "eva", "zoe")}
        self.assertEqual(found, {"ann": ["eva"], "eva": ["ann"], "bob": ["dan"], "dan": ["bob"], "zoe": []})

    def test_a_guest_of_the_other_colour_at_the_same_station(self):
        here = Crowd(Net.row(2), [0], [("b", 0), ("d", 1), ("a", 0)], [("c", 0)])
        self.assertEqual([companions(here, name) for name in "abcd"], [["b", "d"], ["a", "d"], [], ["a", "b"]])

    def test_nobody(self):
        for name in ("", "max", "Ann"):
            self.fails(lambda: companions(PARTS, name), NoName, name)

    def test_returned_lists_are_new(self):
        companions(PARTS, "ann").append("spoilt")
        self.assertEqual(companions(PARTS, "ann"), ["eva"])


class NamedCount(Case):

    def test_against_all_named_kinds(self):
        for net in NETS[1:] + [Net.row(5)]:
            for reds, blues in GUESTS + [("ab", "cd") if net.stations < 4 else ("", "abc")]:
                kinds = named_kinds(net, reds, blues)
                groups = {}
                for kind in kinds:
                    key = min(steps_from(net, place_without_names(net, min(kind))))
                    groups.setdefault(key, []).append(kind)
                for group in groups.values():
                    for kind in group[:2]:
                        self.assertEqual(named_count(crowd_of(net, min(kind))), len(group))

    def test_by_hand(self):
        self.assertEqual(named_count(PARTS), comb(4, 2))
        self.assertEqual(named_count(Crowd(Net(1, []), [], [("a", 0), ("b", 0)], [("c", 0)])), 1)
        # Each red guest is alone in a live part.
        net = Net.star(13)
        names = "abcdefghijkl"
        apart = Crowd(net, [0] * 12, [(name, k + 1) for k, name in enumerate(names)], [])
        self.assertEqual(len(live_parts(apart.standing())), 12)
        self.assertEqual(named_count(apart), 479001600)
        together = Crowd(net, [0] * 12, [(name, 0) for name in names], [])
        self.assertEqual(named_count(together), 1)

    def test_both_colours(self):
        # Two parts of reds and two of blues: each choice of one colour goes with each of the other.
        net = Net.row(7)
        here = Crowd(net, [0, 0, 0, 0, 1, 0], [("a", 1), ("b", 6)], [("c", 0), ("d", 5), ("e", 5)])
        self.assertEqual(inside(here), [[0, 1, 0, 1], [1, 0, 2, 0]])
        self.assertEqual(named_count(here), 2 * 3)

    def test_it_agrees_with_the_differences(self):
        # No two of the named kinds among all ways to give the names to the places are counted as one.
        rng = Random(60)
        for net in (Net.row(6), Net.star(5), CIRCLES[1]):
            for _ in range(6):
                camp = some_camp(net, "abcd", "", rng)
                places = [place for _, place in camp[1]]
                kinds = []
                for names in permutations("abcd"):
                    there = crowd_of(net, (camp[0], tuple(zip(names, places)), ()))
                    if all(named_difference(there, kind) is not None for kind in kinds):
                        kinds.append(there)
                self.assertEqual(named_count(kinds[0]), len(kinds))


def inside(crowd):
    """How many guests of each colour are in each live part."""
    parts = live_parts(crowd.standing())
    return [[len([1 for _, place in guests if place in part]) for part in parts]
            for guests in (crowd.reds, crowd.blues)]


if __name__ == "__main__":
    unittest.main()
