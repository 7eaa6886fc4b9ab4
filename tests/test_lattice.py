"""Points 38 and 39: profiles on a row, and the lattice of a kind."""

import unittest
from itertools import product
from random import Random

from case import FAR, Case
from oracle import (OTHERS, RINGS, great_net, great_tree, homeward_end, kinds_of, place_of, some_place, some_row,
                    standing_of, steps_from)
from twinrope.errors import Apart, NoProfile, NotARow, OtherNet, OtherSize
from twinrope.homeward import homeward_standing
from twinrope.kinship import are_alike
from twinrope.lattice import Profile, leftmost, lower, median, profile_of, rightmost, standing_at, upper
from twinrope.nets import Net
from twinrope.standings import Standing

ROWS = [Net.row(1), Net.row(2), Net.row(3), Net.row(4)]
TOTALS = [(0, 0), (1, 0), (0, 2), (1, 1), (2, 1), (2, 2)]
NO_ROWS = RINGS + OTHERS + [Net.star(4), Net(2, [(1, 0)]), Net(3, [(1, 2), (0, 1)]), great_net(), great_tree()]


def kinds_on_rows(totals=TOTALS, nets=ROWS):
    for net in nets:
        for reds, blues in totals:
            for kind in kinds_of(net, reds, blues):
                yield net, kind


def profile_at(net, place):
    """The pair of lists of a profile, counted guest by guest."""
    lists = []
    for guests in place[:2]:
        stands = [station for station, many in enumerate(guests) for _ in range(many)]
        lists.append(tuple(sum(1 for station in stands if station > rope) for rope in range(len(net.ropes))))
    return tuple(lists)


def pair_of(profile):
    return profile.reds, profile.blues


class ProfileAsValue(Case):

    def test_attributes(self):
        reds, blues = [3, -1, FAR], [0, 0, -FAR]
        profile = Profile(reds, blues)
        reds.append(1)
        blues[0] = 7
        self.assertEqual(pair_of(profile), ((3, -1, FAR), (0, 0, -FAR)))
        self.assertEqual(pair_of(Profile([], [])), ((), ()))

    def test_equality(self):
        one = Profile([1, 2], [3, 4])
        self.assertTrue(one == Profile([1, 2], [3, 4]))
        for other in (Profile([1, 2], [3, 5]), Profile([0, 2], [3, 4]), Profile([1], [3]), Profile([3, 4], [1, 2]),
                      ((1, 2), (3, 4)), [[1, 2], [3, 4]], None, 0, "x", Net(1, [])):
            self.assertIs(one == other, False)
            self.assertIs(one != other, True)
            self.assertIs(other == one, False)

    def test_smaller_and_greater(self):
        one, two = Profile([1, 5, 0], [2, -2, FAR]), Profile([4, 3, 0], [-FAR, 9, 1])
        self.assertEqual(pair_of(one & two), ((1, 3, 0), (-FAR, -2, 1)))
        self.assertEqual(pair_of(one | two), ((4, 5, 0), (2, 9, FAR)))
        self.assertEqual((two & one, two | one), (one & two, one | two))
        self.assertEqual((one & one, one | one, Profile([], []) & Profile([], [])), (one, one, Profile([], [])))
        self.assertEqual(pair_of(one), ((1, 5, 0), (2, -2, FAR)))

    def test_is_below(self):
        one = Profile([1, 2], [3, 4])
        for other, below in ((one, True), (Profile([1, 2], [3, 5]), True), (Profile([2, 3], [4, 5]), True),
                             (Profile([1, 1], [9, 9]), False), (Profile([9, 9], [3, 3]), False),
                             (Profile([0, 9], [9, 9]), False), (Profile([9, 9], [2, 9]), False)):
            self.assertIs(one.is_below(other), below)
        self.assertIs(Profile([], []).is_below(Profile([], [])), True)

    def test_unlike_lengths(self):
        for reds, blues in (([], [1]), ([1, 2], []), ([1], [1, 2])):
            self.fails(lambda: Profile(reds, blues), OtherSize, len(reds), len(blues))
        one, two = Profile([1], [1]), Profile([1, 2], [1, 2])
        for first, second in ((one, two), (two, one), (Profile([], []), one)):
            sizes = (len(first.reds), len(second.reds))
            self.fails(lambda: first & second, OtherSize, *sizes)
            self.fails(lambda: first | second, OtherSize, *sizes)
            self.fails(lambda: first.is_below(second), OtherSize, *sizes)


class Profiles(Case):

    def test_profile_of(self):
        here = Standing(Net.row(3), [1, 0, 4], [0, 2, 3], [0, 1])
        self.assertEqual(pair_of(profile_of(here)), ((4, 4), (5, 3)))
        self.assertEqual(pair_of(profile_of(Standing(Net(1, []), [9], [8], []))), ((), ()))
        rng = Random(25)
        for net in ROWS + [Net.row(24)]:
            place = some_place(net, 14, 16, rng)
            self.assertEqual(pair_of(profile_of(standing_of(net, place))), profile_at(net, place))

    def test_standing_at_every_profile(self):
        some = list(kinds_on_rows(TOTALS, ROWS[:3])) + list(kinds_on_rows([(1, 0), (1, 1)], ROWS[3:]))
        for net, kind in some:
            here = standing_of(net, kind[-1])
            known = {profile_at(net, place): place for place in kind}
            self.assertEqual(len(known), len(kind))
            for reds in product(range(-1, here.red_total + 2), repeat=len(net.ropes)):
                for blues in product(range(-1, here.blue_total + 2), repeat=len(net.ropes)):
                    self.check_profile(here, list(reds), list(blues), known.get((reds, blues)))

    def check_profile(self, here, reds, blues, place):
        profile = Profile(reds, blues)
        if place is None:
            self.fails(lambda: standing_at(here, profile), NoProfile)
        else:
            self.assertEqual(place_of(standing_at(here, profile)), place)

    def test_profiles_of_another_length(self):
        for net in ROWS:
            here = Standing.gathered(net, 1, 1)
            for many in range(5):
                if many != len(net.ropes):
                    self.fails(lambda: standing_at(here, Profile([0] * many, [0] * many)), NoProfile)

    def test_great_row(self):
        rng, net = Random(26), Net.row(24)
        _, places = some_row(net, some_place(net, 15, 15, rng), 400, rng)
        here = standing_of(net, places[0])
        for place in places[::40]:
            self.assertEqual(place_of(standing_at(here, Profile(*map(list, profile_at(net, place))))), place)
        for profile in (Profile([FAR] * 23, [FAR] * 23), Profile([-FAR] * 23, [0] * 23), Profile([0] * 22, [0] * 22)):
            self.fails(lambda: standing_at(here, profile), NoProfile)


class Lattice(Case):

    def test_lower_and_upper(self):
        for net, kind in kinds_on_rows():
            known = {profile_at(net, place): place for place in kind}
            some = kind[::1 + len(kind) // 8]
            for one in some:
                for two in some:
                    pairs = list(zip(profile_at(net, one), profile_at(net, two)))
                    low = tuple(tuple(map(min, *pair)) for pair in pairs) if net.ropes else ((), ())
                    high = tuple(tuple(map(max, *pair)) for pair in pairs) if net.ropes else ((), ())
                    first, second = standing_of(net, one), standing_of(net, two)
                    self.assertEqual(place_of(lower(first, second)), known[low])
                    self.assertEqual(place_of(upper(first, second)), known[high])

    def test_leftmost_and_rightmost(self):
        for net, kind in kinds_on_rows():
            here = standing_of(net, kind[len(kind) // 2])
            left, right = leftmost(here), rightmost(here)
            self.assertIn(place_of(left), kind)
            self.assertIn(place_of(right), kind)
            self.assertEqual(place_of(left), homeward_end(net, kind[0], 0)[0])
            self.assertEqual(place_of(right), homeward_end(net, kind[0], net.stations - 1)[0])
            for place in kind:
                profile = profile_of(standing_of(net, place))
                self.assertTrue(profile_of(left).is_below(profile))
                self.assertTrue(profile.is_below(profile_of(right)))

    def test_the_median_lies_between_each_two(self):
        for net, kind in kinds_on_rows([(1, 0), (1, 1), (2, 1), (2, 2)]):
            some = kind[::1 + len(kind) // 4]
            far = {place: steps_from(net, place) for place in some}
            for three in product(some, repeat=3):
                middle = place_of(median(*[standing_of(net, place) for place in three]))
                for one in three:
                    for two in three:
                        if one != two:
                            self.assertEqual(far[one][middle] + far[two][middle], far[one][two])
                values = [profile_at(net, place) for place in three]
                found = profile_at(net, middle)
                for colour in (0, 1):
                    for k in range(len(net.ropes)):
                        self.assertEqual(found[colour][k], sorted(value[colour][k] for value in values)[1])

    def test_great_row(self):
        rng, net = Random(27), Net.row(24)
        for totals in ((15, 15), (30, 0), (4, 3)):
            _, places = some_row(net, some_place(net, *totals, rng), 900, rng)
            one, two, three = [standing_of(net, place) for place in (places[0], places[450], places[-1])]
            profiles = [profile_of(one), profile_of(two), profile_of(three)]
            self.assertEqual(profile_of(lower(one, two)), profiles[0] & profiles[1])
            self.assertEqual(profile_of(upper(one, two)), profiles[0] | profiles[1])
            a, b, c = profiles
            self.assertEqual(profile_of(median(one, two, three)), (a & b) | (a & c) | (b & c))
            self.assertEqual((leftmost(one), rightmost(one)), (homeward_standing(one, 0), homeward_standing(one, 23)))
            for there in (lower(one, two), upper(one, two), median(one, two, three), leftmost(two), rightmost(three)):
                self.assertTrue(are_alike(one, there))


class Errors(Case):

    def test_not_a_row(self):
        row = Standing.gathered(Net.row(3), 2, 2)
        for net in NO_ROWS:
            here = Standing.gathered(net, 1, 1)
            for other in (here, row, Standing.gathered(net, 0, 1)):
                for entry in (lambda: lower(here, other), lambda: upper(here, other),
                              lambda: median(here, other, row), lambda: median(here, here, other)):
                    self.fails(entry, NotARow)
            for entry in (lambda: profile_of(here), lambda: standing_at(here, Profile([], [])),
                          lambda: leftmost(here), lambda: rightmost(here)):
                self.fails(entry, NotARow)

    def test_other_nets(self):
        here, far = Standing.gathered(Net.row(3), 1, 1), Standing.gathered(Net.row(3), 2, 1)
        for net in (Net.row(2), Net.star(3), Net.ring(3), Net(3, [(1, 0), (1, 2)])):
            other = Standing.gathered(net, 0, 2)
            for entry in (lambda: lower(here, other), lambda: upper(here, other), lambda: median(here, other, here),
                          lambda: median(here, far, other), lambda: median(here, here, other)):
                self.fails(entry, OtherNet)

    def test_apart(self):
        net = Net.row(3)
        here = Standing(net, [1, 0, 0], [0, 0, 1], [0, 0])
        for there, why, back in ((Standing(net, [1, 1, 0], [0, 0, 1], [0, 0]), ("reds", 1, 2), ("reds", 2, 1)),
                                 (Standing(net, [0, 1, 0], [0, 0, 1], [0, 0]), ("book", 0, 0, -1), ("book", 0, -1, 0)),
                                 (Standing(net, [1, 0, 0], [0, 0, 2], [0, 0]), ("book", 2, -1, -2),
                                  ("book", 2, -2, -1))):
            for entry in (lower, upper):
                self.fails(lambda: entry(here, there), Apart, why)
                self.fails(lambda: entry(there, here), Apart, back)
            self.fails(lambda: median(here, there, here), Apart, why)
            self.fails(lambda: median(here, here, there), Apart, why)
            self.fails(lambda: median(there, here, there), Apart, back)
        more, book = Standing(net, [2, 0, 0], [0, 0, 1], [0, 0]), Standing(net, [0, 1, 0], [0, 0, 1], [0, 0])
        self.fails(lambda: median(here, more, book), Apart, ("reds", 1, 2))
        self.fails(lambda: median(here, book, more), Apart, ("book", 0, 0, -1))


if __name__ == "__main__":
    unittest.main()
