"""Point 40: what lies between two standings of a row."""

import unittest
from random import Random

from case import Case
from oracle import kinds_of, place_of, some_place, some_row, standing_of, steps_from
from test_lattice import NO_ROWS, ROWS, profile_at
from twinrope.between import between_count, diameter, every_between, is_between
from twinrope.errors import Apart, NotARow, OtherNet, TooMany
from twinrope.lattice import leftmost, rightmost
from twinrope.least import least_number
from twinrope.nets import Net
from twinrope.sizes import kind_size
from twinrope.standings import Standing

TOTALS = [(0, 0), (1, 0), (0, 2), (1, 1), (2, 1), (2, 2)]


class Between(Case):

    def test_all_middles_on_small_rows(self):
        for net in ROWS:
            for totals in TOTALS:
                for kind in kinds_of(net, *totals):
                    some = kind[::1 + len(kind) // 3]
                    far = {place: steps_from(net, place) for place in some}
                    for one in some:
                        for two in some:
                            self.check(net, kind, one, two, far)
                    here = standing_of(net, kind[-1])
                    widest = max(max(steps_from(net, place).values()) for place in kind)
                    self.assertEqual(diameter(here), widest)

    def check(self, net, kind, one, two, far):
        middles = [place for place in kind if far[one][place] + far[two][place] == far[one][two]]
        first, second = standing_of(net, one), standing_of(net, two)
        self.assertEqual(between_count(first, second), len(middles))
        self.assertEqual([place_of(there) for there in every_between(first, second)], middles)
        for place in kind[::1 + len(kind) // 6]:
            self.assertIs(is_between(first, standing_of(net, place), second), place in middles)
        self.assertTrue(is_between(first, first, second) and is_between(first, second, second))

    def test_the_least_number_is_the_sum_of_the_differences(self):
        for net in ROWS:
            for kind in kinds_of(net, 2, 1):
                for one in kind[::1 + len(kind) // 4]:
                    for two, many in steps_from(net, one).items():
                        pairs = zip(sum(profile_at(net, one), ()), sum(profile_at(net, two), ()))
                        self.assertEqual(sum(abs(a - b) for a, b in pairs), many)

    def test_the_whole_kind_is_between_its_ends(self):
        rng = Random(28)
        for stations in (1, 2, 5, 12, 24):
            for totals in ((15, 15), (30, 0), (2, 3), (0, 0)):
                here = standing_of(Net.row(stations), some_place(Net.row(stations), *totals, rng))
                left, right = leftmost(here), rightmost(here)
                self.assertEqual(between_count(left, right), kind_size(here))
                self.assertEqual(between_count(right, left), kind_size(here))
                self.assertEqual(diameter(here), least_number(left, right))
                self.assertEqual(between_count(here, here), 1)
                self.assertEqual(list(every_between(here, here)), [here])

    def test_the_longest_row(self):
        net = Net.row(24)
        here = Standing.gathered(net, 15, 15)
        self.assertEqual(diameter(here), 690)
        self.assertEqual(between_count(leftmost(here), rightmost(here)), kind_size(here))
        self.fails(lambda: next(every_between(leftmost(here), rightmost(here))), TooMany, 20000)

    def test_few_between_in_a_great_kind(self):
        rng, net = Random(29), Net.row(24)
        rides, places = some_row(net, some_place(net, 15, 15, rng), 12, rng)
        first = standing_of(net, places[0])
        self.assertGreater(kind_size(first), 10 ** 8)
        for place in places:
            second = standing_of(net, place)
            found = list(every_between(first, second))
            self.assertEqual(len(found), between_count(first, second))
            keys = [there.key() for there in found]
            self.assertEqual(keys, sorted(set(keys)))
            self.assertTrue(all(is_between(first, there, second) for there in found))
            self.assertTrue({first.key(), second.key()} <= set(keys))

    def test_as_many_as_may_be_listed(self):
        net = Net.row(6)
        one = Standing(net, [12, 1, 0, 0, 0, 2], [9, 0, 0, 1, 1, 0], [0, 0, 1, 1, 0])
        two = Standing(net, [2, 4, 1, 0, 3, 5], [0, 3, 0, 1, 4, 3], [1, 1, 1, 1, 0])
        self.assertEqual((between_count(one, two), between_count(two, one)), (20000, 20000))
        keys = [there.key() for there in every_between(one, two)]
        self.assertEqual((len(keys), keys), (20000, sorted(set(keys))))
        self.assertEqual(keys, [there.key() for there in every_between(two, one)])
        net = Net.row(7)
        one = Standing(net, [0, 2, 2, 0, 0, 0, 9], [0, 0, 0, 2, 3, 0, 9], [0, 1, 1, 0, 0, 0])
        two = Standing(net, [1, 5, 3, 0, 0, 3, 1], [1, 2, 2, 2, 3, 3, 1], [0, 0, 1, 0, 0, 0])
        self.assertEqual(between_count(one, two), 20004)
        self.fails(lambda: next(every_between(one, two)), TooMany, 20000)

    def test_it_begins_anew(self):
        here = Standing.gathered(Net.row(3), 2, 2)
        one, two = leftmost(here), rightmost(here)
        self.assertEqual(list(every_between(one, two)), list(every_between(one, two)))


class Errors(Case):

    def entries(self, first, second):
        return [lambda: between_count(first, second), lambda: next(every_between(first, second)),
                lambda: is_between(first, second, first), lambda: is_between(first, first, second)]

    def test_not_a_row(self):
        row = Standing.gathered(Net.row(3), 2, 2)
        for net in NO_ROWS:
            here = Standing.gathered(net, 1, 1)
            for other in (here, row, Standing.gathered(net, 0, 1)):
                for entry in self.entries(here, other):
                    self.fails(entry, NotARow)
            self.fails(lambda: diameter(here), NotARow)

    def test_other_nets(self):
        here, far = Standing.gathered(Net.row(3), 1, 1), Standing.gathered(Net.row(3), 2, 1)
        for net in (Net.row(2), Net.star(3), Net.ring(3), Net(3, [(1, 0), (1, 2)])):
            other = Standing.gathered(net, 0, 2)
            for entry in self.entries(here, other):
                self.fails(entry, OtherNet)
            self.fails(lambda: is_between(here, far, other), OtherNet)

    def test_apart(self):
        net = Net.row(3)
        here = Standing(net, [1, 0, 0], [0, 0, 1], [0, 0])
        more, book = Standing(net, [2, 0, 0], [0, 0, 1], [0, 0]), Standing(net, [0, 1, 0], [0, 0, 1], [0, 0])
        for there, why, back in ((more, ("reds", 1, 2), ("reds", 2, 1)),
                                 (book, ("book", 0, 0, -1), ("book", 0, -1, 0))):
            for entry in self.entries(here, there):
                self.fails(entry, Apart, why)
            self.fails(lambda: between_count(there, here), Apart, back)
            self.fails(lambda: next(every_between(there, here)), Apart, back)
        self.fails(lambda: is_between(here, more, book), Apart, ("reds", 1, 2))
        self.fails(lambda: is_between(here, book, more), Apart, ("book", 0, 0, -1))

    def test_errors_come_with_the_first_item(self):
        here = Standing.gathered(Net.row(3), 1, 1)
        for other in (Standing.gathered(Net.row(2), 1, 1), Standing.gathered(Net.row(3), 2, 1)):
            every_between(here, other)
        every_between(Standing.gathered(Net.ring(3), 1, 1), here)
        great = Standing.gathered(Net.row(24), 15, 15)
        every_between(leftmost(great), rightmost(great))


if __name__ == "__main__":
    unittest.main()
