"""Point 32: binomial coefficients and how many kinds there are."""

import unittest
from itertools import combinations
from math import comb, factorial

from case import FAR, Case
from oracle import TREES, kinds_of, meets, number_rows
from twinrope.counts import choose, kind_count, meeting_count
from twinrope.errors import BadCount, TooMany
from twinrope.nets import Net


def by_sum(ropes, reds, blues):
    return sum(comb(ropes, j) * comb(reds + j, j) * comb(blues + ropes - j, ropes - j) for j in range(ropes + 1))


class Choose(Case):

    def test_small(self):
        for n in range(8):
            for k in range(n + 3):
                self.assertEqual(choose(n, k), len(list(combinations(range(n), k))))

    def test_edges(self):
        self.assertEqual((choose(0, 0), choose(5, 0), choose(5, 5), choose(5, 6), choose(5, -1)), (1, 1, 1, 0, 0))
        for k in (FAR, -FAR, 10 ** 18 - 1):
            self.assertEqual((choose(0, k), choose(1000, k)), (0, 0))

    def test_a_thousand(self):
        self.assertEqual(choose(1000, 500), factorial(1000) // factorial(500) ** 2)
        self.assertEqual((choose(1000, 1), choose(1000, 1000), choose(1000, 1001)), (1000, 1, 0))
        self.assertEqual(sum(choose(1000, k) for k in range(1001)), 2 ** 1000)

    def test_errors(self):
        for n in (-1, -7, -FAR):
            for k in (-1, 0, 1, n, FAR):
                self.fails(lambda: choose(n, k), BadCount, n)


class Counts(Case):

    def test_kinds_that_are_found(self):
        for net in TREES:
            for reds in range(4):
                for blues in range(4 - reds):
                    kinds = kinds_of(net, reds, blues)
                    self.assertEqual(kind_count(len(net.ropes), reds, blues), len(kinds))
                    met = sum(1 for kind in kinds if meets(kind))
                    self.assertEqual(meeting_count(len(net.ropes), reds, blues), met)

    def test_rows_of_numbers(self):
        for ropes in range(5):
            for reds in range(4):
                for blues in range(3):
                    self.assertEqual(kind_count(ropes, reds, blues), len(number_rows(ropes, reds, blues)))

    def test_the_sum(self):
        for ropes, reds, blues in ((0, 0, 0), (0, 17, 13), (1, 30, 0), (23, 15, 15), (40, 15, 15), (40, 0, 30),
                                   (40, 30, 0), (40, 0, 0), (12, 7, 8)):
            self.assertEqual(kind_count(ropes, reds, blues), by_sum(ropes, reds, blues))
            self.assertEqual(kind_count(ropes, reds, blues), kind_count(ropes, blues, reds))
        self.assertEqual(kind_count(0, 9, 9), 1)
        self.assertEqual(kind_count(40, 0, 0), 2 ** 40)

    def test_meeting(self):
        self.assertEqual((meeting_count(3, 0, 5), meeting_count(3, 5, 0), meeting_count(40, 0, 0)), (0, 0, 0))
        self.assertEqual((meeting_count(0, 1, 1), meeting_count(5, 1, 1)), (1, 32))
        self.assertEqual(meeting_count(40, 14, 16), by_sum(40, 13, 15))

    def test_errors(self):
        for entry in (kind_count, meeting_count):
            for ropes in (-1, -FAR):
                self.fails(lambda: entry(ropes, -1, 50), BadCount, ropes)
            for ropes in (41, FAR):
                self.fails(lambda: entry(ropes, -1, 50), TooMany, 40)
            for ropes in (0, 40):
                self.fails(lambda: entry(ropes, -1, -2), BadCount, -1)
                self.fails(lambda: entry(ropes, FAR, -FAR), BadCount, -FAR)
                self.fails(lambda: entry(ropes, 0, -1), BadCount, -1)
                for reds, blues in ((31, 0), (0, 31), (15, 16), (FAR, FAR)):
                    self.fails(lambda: entry(ropes, reds, blues), TooMany, 30)

    def test_the_greatest_net(self):
        self.assertEqual(kind_count(Net.MOST_ROPES, 15, 15), by_sum(40, 15, 15))


if __name__ == "__main__":
    unittest.main()
