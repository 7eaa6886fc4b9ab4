"""Point 16: books."""

import unittest
from random import Random

from case import FAR, Case
from oracle import SMALL_NETS, book_of, great_net, place_of, small_kinds, some_place, some_row, standing_of
from twinrope.books import Books, books_of
from twinrope.errors import NoStation, OtherSize
from twinrope.nets import Net
from twinrope.rides import walk
from twinrope.standings import Standing


class BooksOfStandings(Case):

    def test_one_standing(self):
        here = Standing(Net(3, [(0, 1), (0, 1), (2, 1)]), [3, 0, 1], [0, 2, 1], [0, 1, 1])
        self.assertEqual(books_of(here), Books([2, -4, 0]))
        self.assertIsInstance(books_of(here), Books)

    def test_no_guests_and_no_ropes(self):
        self.assertEqual(books_of(Standing(Net(1, []), [0], [0], [])).entries, (0,))
        self.assertEqual(books_of(Standing(Net(1, []), [4], [9], [])).entries, (-5,))
        self.assertEqual(books_of(Standing(Net.row(2), [0, 0], [0, 0], [1])).entries, (0, -1))

    def check(self, net, place):
        books = books_of(standing_of(net, place))
        self.assertEqual(list(books), [book_of(net, place, station) for station in range(net.stations)])
        self.assertEqual(books.total(), sum(place[0]) - sum(place[1]) - len(net.ropes))

    def test_many_standings(self):
        rng = Random(1)
        for net in SMALL_NETS + [great_net()]:
            for reds, blues in ((0, 0), (3, 0), (0, 3), (9, 7), (15, 15), (0, 30)):
                self.check(net, some_place(net, reds, blues, rng))

    def test_a_ride_leaves_every_book_as_it_is(self):
        for net, kind in small_kinds(totals=[(1, 0), (1, 1), (2, 1)], most=400):
            self.assertEqual(len({books_of(standing_of(net, place)).entries for place in kind}), 1)
        net, rng = great_net(), Random(2)
        rides, places = some_row(net, some_place(net, 14, 16, rng), 300, rng)
        for there in walk(standing_of(net, places[0]), rides):
            self.assertEqual(books_of(there), books_of(standing_of(net, places[0])))
            self.assertEqual(place_of(there)[1], there.blues)


class BooksAsValues(Case):

    def test_attribute_and_iteration(self):
        books = Books([3, -4, 0])
        self.assertEqual(books.entries, (3, -4, 0))
        self.assertIsInstance(books.entries, tuple)
        self.assertEqual(list(books), [3, -4, 0])
        self.assertEqual(sum(books), -1)
        self.assertEqual((len(books), len(Books([]))), (3, 0))

    def test_total(self):
        self.assertEqual(Books([3, -4, 0]).total(), -1)
        self.assertEqual(Books([]).total(), 0)
        self.assertEqual(Books([FAR, FAR]).total(), 2 * FAR)

    def test_sums(self):
        one, two = Books([3, -4, 0]), Books([1, 1, -5])
        self.assertEqual(one + two, Books([4, -3, -5]))
        self.assertEqual(one - two, Books([2, -5, 5]))
        self.assertEqual(two - one, Books([-2, 5, -5]))
        self.assertEqual(-one, Books([-3, 4, 0]))
        self.assertEqual(Books([]) + Books([]), Books([]))
        self.assertEqual(Books([]) - Books([]), -Books([]))
        self.assertEqual((one.entries, two.entries), ((3, -4, 0), (1, 1, -5)))

    def test_unlike_lengths(self):
        one, two = Books([1, 2, 3]), Books([1])
        self.fails(lambda: one + two, OtherSize, 3, 1)
        self.fails(lambda: two + one, OtherSize, 1, 3)
        self.fails(lambda: one - two, OtherSize, 3, 1)
        self.fails(lambda: two - one, OtherSize, 1, 3)
        self.fails(lambda: Books([]) - two, OtherSize, 0, 1)

    def test_equality(self):
        self.assertTrue(Books([1, 2]) == Books([1, 2]))
        self.assertFalse(Books([1, 2]) != Books([1, 2]))
        for other in ([2, 1], [1], [1, 2, 0], [], [1, -2], [0, 0]):
            self.assertFalse(Books([1, 2]) == Books(other))
            self.assertTrue(Books([1, 2]) != Books(other))
        self.assertFalse(Books([0]) == Books([0, 0]))

    def test_truth(self):
        for entries in ([], [0], [0, 0, 0]):
            self.assertIs(bool(Books(entries)), False)
        for entries in ([1], [0, -1], [0, 0, 7], [1, -1], [-3, 0]):
            self.assertIs(bool(Books(entries)), True)

    def test_entries(self):
        books = Books([3, -4, 0])
        self.assertEqual([books[station] for station in range(3)], [3, -4, 0])
        for station in (-1, 3, -3, FAR, -FAR):
            self.fails(lambda: books[station], NoStation, station)
        self.fails(lambda: Books([])[0], NoStation, 0)


if __name__ == "__main__":
    unittest.main()
