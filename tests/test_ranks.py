"""Points 33 and 34: ranks of rows of numbers, and kinds by their ranks."""

import unittest
from random import Random

from case import FAR, Case
from oracle import (OTHERS, RINGS, TREES, great_net, great_tree, homeward_end, kinds_of, number_rows, place_of,
                    places_with, some_place, some_row, some_tree, standing_of)
from twinrope.counts import kind_count
from twinrope.errors import BadCount, BadRank, NoStation, NotATree, Short, TooMany
from twinrope.homeward import homeward_standing, numbers_of
from twinrope.kinship import are_alike
from twinrope.nets import Net
from twinrope.ranks import every_kind, kind_at, kind_rank, next_numbers, numbers_at, rank_of
from twinrope.standings import Standing

BAD_TOTALS = [(-1, -2, BadCount, -1), (3, -FAR, BadCount, -FAR), (-FAR, FAR, BadCount, -FAR), (31, 0, TooMany, 30),
              (0, 31, TooMany, 30), (15, 16, TooMany, 30), (FAR, FAR, TooMany, 30)]
THOUSANDS = 10 ** 5000
TOTALS = [(0, 0), (1, 0), (0, 1), (1, 1), (2, 1), (1, 2), (3, 0), (0, 3)]


def some_numbers(many, reds, blues, rng):
    """A row of numbers that need at most these totals."""
    numbers = [rng.choice((0, -1)) for _ in range(many)]
    for _ in range(reds):
        at = rng.randrange(many)
        numbers[at] += 1 if numbers[at] >= 0 else 0
    for _ in range(blues):
        at = rng.randrange(many)
        numbers[at] -= 1 if numbers[at] < 0 else 0
    return numbers


class Ranks(Case):

    def test_all_rows(self):
        for ropes in range(5):
            for reds, blues in TOTALS:
                rows = [list(row) for row in number_rows(ropes, reds, blues)]
                self.assertEqual([rank_of(row, reds, blues) for row in rows], list(range(len(rows))))
                self.assertEqual([numbers_at(rank, ropes, reds, blues) for rank in range(len(rows))], rows)
                self.assertEqual([next_numbers(row, reds, blues) for row in rows], rows[1:] + [None])

    def test_an_empty_row(self):
        self.assertEqual((rank_of([], 3, 4), numbers_at(0, 0, 3, 4), next_numbers([], 3, 4)), (0, [], None))

    def test_one_number(self):
        self.assertEqual([rank_of([J], 13, 17) for J in range(-18, 14)], list(range(32)))
        self.assertEqual([numbers_at(rank, 1, 13, 17) for rank in (0, 17, 18, 31)], [[-18], [-1], [0], [13]])

    def test_forty_numbers(self):
        rng = Random(15)
        for reds, blues in ((15, 15), (30, 0), (0, 30), (0, 0), (4, 9)):
            last = kind_count(40, reds, blues) - 1
            self.assertEqual(numbers_at(0, 40, reds, blues), [-1 - blues] + [-1] * 39)
            self.assertEqual(numbers_at(last, 40, reds, blues), [reds] + [0] * 39)
            self.assertEqual(rank_of([reds] + [0] * 39, reds, blues), last)
            self.assertIsNone(next_numbers([reds] + [0] * 39, reds, blues))
            for _ in range(5):
                numbers = some_numbers(40, reds, blues, rng)
                rank = rank_of(numbers, reds, blues)
                self.assertEqual(numbers_at(rank, 40, reds, blues), numbers)
                after = next_numbers(numbers, reds, blues)
                self.assertEqual(rank_of(after, reds, blues), rank + 1)
                self.assertEqual(numbers_at(rank + 1, 40, reds, blues), after)

    def test_longer_rows_than_nets_have(self):
        numbers = [-1] * 60 + [3, -4]
        rank = rank_of(numbers, 5, 5)
        self.assertEqual(rank_of(next_numbers(numbers, 5, 5), 5, 5), rank + 1)
        self.assertEqual(next_numbers([-1] * 45, 0, 0), [-1] * 44 + [0])

    def test_short(self):
        for numbers, values in (([2, 2], ("red", 1)), ([FAR, -FAR], ("red", FAR - 3)), ([-3, -2], ("blue", 1)),
                                ([0, -FAR], ("blue", FAR - 3)), ([4] * 40, ("red", 157)), ([-2] * 41, ("blue", 39))):
            self.fails(lambda: rank_of(numbers, 3, 2), Short, *values)
            self.fails(lambda: next_numbers(numbers, 3, 2), Short, *values)

    def test_totals_come_before_short(self):
        for reds, blues, error, value in BAD_TOTALS:
            self.fails(lambda: rank_of([FAR, -FAR], reds, blues), error, value)
            self.fails(lambda: next_numbers([FAR, -FAR], reds, blues), error, value)
            self.fails(lambda: numbers_at(-1, 3, reds, blues), error, value)
            self.fails(lambda: numbers_at(-1, -3, reds, blues), BadCount, -3)
            self.fails(lambda: numbers_at(THOUSANDS, 41, reds, blues), TooMany, 40)

    def test_bad_ranks(self):
        for ropes, reds, blues in ((0, 3, 4), (1, 0, 0), (3, 2, 1), (40, 15, 15)):
            count = kind_count(ropes, reds, blues)
            for rank in (-1, count, count + 1, -THOUSANDS, THOUSANDS):
                self.fails(lambda: numbers_at(rank, ropes, reds, blues), BadRank, rank)
        self.fails(lambda: numbers_at(FAR, 2, 1, 1), BadRank, FAR)
        for ropes in (-1, -FAR):
            self.fails(lambda: numbers_at(0, ropes, 0, 0), BadCount, ropes)
        for ropes in (41, FAR):
            self.fails(lambda: numbers_at(0, ropes, 0, 0), TooMany, 40)


class KindsByRank(Case):

    def test_all_kinds(self):
        for net in TREES:
            for totals in TOTALS[:6]:
                kinds = kinds_of(net, *totals)
                for home in range(net.stations):
                    ranks = [kind_rank(standing_of(net, kind[-1]), home) for kind in kinds]
                    self.assertEqual(sorted(ranks), list(range(len(kinds))))
                    homes = {rank: homeward_end(net, kind[0], home)[0] for rank, kind in zip(ranks, kinds)}
                    found = [place_of(there) for there in every_kind(net, home, *totals)]
                    self.assertEqual(found, [homes[rank] for rank in range(len(kinds))])
                    for rank in range(0, len(kinds), 5):
                        self.assertEqual(place_of(kind_at(net, home, rank, *totals)), homes[rank])

    def test_alike_exactly_if_totals_and_ranks_are_equal(self):
        for net in TREES[:6]:
            places = [place for totals in ((1, 1), (2, 0), (2, 1)) for place in places_with(net, *totals)]
            some = [standing_of(net, place) for place in places[::1 + len(places) // 30]]
            for one in some:
                for two in some:
                    same = one.red_total == two.red_total and one.blue_total == two.blue_total
                    same = same and kind_rank(one, 0) == kind_rank(two, 0)
                    self.assertEqual(are_alike(one, two), same)

    def test_one_station(self):
        net = Net(1, [])
        self.assertEqual(kind_rank(Standing(net, [3], [4], []), 0), 0)
        self.assertEqual(list(every_kind(net, 0, 3, 4)), [Standing(net, [3], [4], [])])
        self.assertEqual(kind_at(net, 0, 0, 3, 4), Standing(net, [3], [4], []))
        self.fails(lambda: kind_at(net, 0, 1, 3, 4), BadRank, 1)

    def test_great_trees(self):
        rng = Random(16)
        for net in (Net.row(24), Net.star(24), great_tree(), some_tree(24, rng)):
            _, places = some_row(net, some_place(net, 15, 15, rng), 100, rng)
            here, there = standing_of(net, places[0]), standing_of(net, places[-1])
            for home in (0, 7, 23):
                rank = kind_rank(here, home)
                self.assertEqual(kind_rank(there, home), rank)
                self.assertEqual(rank, rank_of(numbers_of(here, home), 15, 15))
                self.assertEqual(kind_at(net, home, rank, 15, 15), homeward_standing(here, home))
            last = kind_count(23, 15, 15)
            end = kind_at(net, 0, last - 1, 15, 15)
            self.assertEqual((kind_rank(end, 0), numbers_of(end, 0)), (last - 1, [15] + [0] * 22))
            for rank in (last, -1, THOUSANDS, -THOUSANDS):
                self.fails(lambda: kind_at(net, 0, rank, 15, 15), BadRank, rank)

    def test_as_many_as_may_be_listed(self):
        self.assertEqual(len(list(every_kind(Net.star(15), 3, 0, 0))), 16384)
        self.fails(lambda: next(every_kind(Net.star(16), 3, 0, 0)), TooMany, 20000)
        counts = [(kind_count(ropes, reds, blues), ropes, reds, blues) for ropes in range(24)
                  for reds in range(31) for blues in range(31 - reds)]
        below = max(item for item in counts if item[0] <= 20000)
        above = min(item for item in counts if item[0] > 20000)
        self.assertEqual(len(list(every_kind(Net.row(below[1] + 1), 0, *below[2:]))), below[0])
        self.fails(lambda: next(every_kind(Net.row(above[1] + 1), 0, *above[2:])), TooMany, 20000)

    def test_every_kind_begins_anew(self):
        net = great_tree()
        one, two = every_kind(Net.row(3), 1, 2, 1), every_kind(Net.row(3), 1, 2, 1)
        self.assertEqual(list(one), list(two))
        late = every_kind(net, 0, 1, 1)
        self.fails(lambda: next(late), TooMany, 20000)

    def entries(self, net, home, reds, blues):
        return [lambda: kind_at(net, home, -1, reds, blues), lambda: next(every_kind(net, home, reds, blues))]

    def test_errors(self):
        for net in RINGS + OTHERS + [great_net()]:
            for entry in self.entries(net, -1, -1, -1) + [lambda: kind_rank(Standing.gathered(net, 1, 0), -1)]:
                self.fails(entry, NotATree)
        for net in (Net(1, []), Net.row(4), great_tree()):
            for home in (-1, net.stations, FAR, -FAR):
                for entry in self.entries(net, home, -1, 50) + [lambda: kind_rank(Standing.gathered(net, 1, 0), home)]:
                    self.fails(entry, NoStation, home)
            for reds, blues, error, value in BAD_TOTALS:
                for entry in self.entries(net, 0, reds, blues):
                    self.fails(entry, error, value)

    def test_errors_come_with_the_first_item(self):
        for arguments in ((Net.ring(3), 9, 1, 1), (Net.row(3), 9, 1, 1), (Net.row(3), 0, -1, 1), (Net.row(3), 0, 1, 99),
                          (great_tree(), 0, 9, 9)):
            every_kind(*arguments)


if __name__ == "__main__":
    unittest.main()
