"""Points 29 to 31: homeward rides, the numbers of a kind, and numbers and books."""

import unittest
from random import Random

from case import FAR, Case
from oracle import (OTHERS, RINGS, TREES, book_of, great_net, great_tree, homeward_end, kinds_of, moves, moves_home,
                    number_rows, place_of, places_with, ropes_from, small_kinds, some_homeward_end, some_place,
                    some_row, some_tree, standing_of)
from twinrope.books import Books, books_of
from twinrope.errors import BadCount, BadNumbers, NoStation, NotATree, OtherSize, Short, TooMany
from twinrope.homeward import (from_numbers, homeward_rides, homeward_row, homeward_standing, numbers_of,
                               numbers_of_books, rehome, standing_of_books)
from twinrope.kinship import are_alike
from twinrope.nets import Net
from twinrope.rides import end_of
from twinrope.standings import Standing

TOTALS = [(0, 0), (1, 0), (0, 2), (1, 1), (2, 1), (1, 2), (3, 2)]
GREAT = [Net.row(24), Net.star(24), great_tree(), great_tree(2), some_tree(24, Random(6))]


def lower_ends(net, home):
    far = ropes_from(net, home)
    return [max(ends, key=lambda station: far[station]) for ends in net.ropes]


def numbers_in(net, place, home):
    """The numbers of a homeward place, read off as point 30 tells."""
    numbers = []
    for rope, low in enumerate(lower_ends(net, home)):
        red_there = net.ropes[rope][place[2][rope]] == low
        if red_there:
            assert place[0][low] == 0
            numbers.append(-1 - place[1][low])
        else:
            assert place[1][low] == 0
            numbers.append(place[0][low])
    return numbers


class Homeward(Case):

    def test_a_row(self):
        here = Standing(Net.row(3), [0, 0, 2], [0, 0, 1], [1, 1])
        self.assertEqual(homeward_rides(here, 0), [(1, "red")])
        self.assertEqual(homeward_rides(here, 2), [])
        self.assertEqual(homeward_row(here, 0), [(1, "red"), (0, "red"), (1, "blue"), (0, "blue"), (1, "red"),
                                                 (0, "red")])
        self.assertEqual(homeward_standing(here, 0).key(), (2, 0, 0, 1, 0, 0, 0, 0))
        self.assertEqual(homeward_row(here, 1), [(1, "red"), (1, "blue"), (1, "red")])

    def test_one_station(self):
        here = Standing(Net(1, []), [3], [4], [])
        self.assertEqual((homeward_rides(here, 0), homeward_row(here, 0), numbers_of(here, 0)), ([], [], []))
        self.assertEqual(homeward_standing(here, 0), here)
        self.assertEqual(from_numbers(here.net, 0, [], 3, 4), here)
        self.assertEqual(numbers_of_books(here.net, 0, Books([FAR])), [])
        self.assertEqual(rehome(here.net, 0, [], 3, 4, 0), [])

    def test_rides_on_small_trees(self):
        for net, kind in small_kinds(TREES, TOTALS, 600):
            for home in range(net.stations):
                far = ropes_from(net, home)
                for place in kind[::1 + len(kind) // 8]:
                    rides = [ride for ride, _ in moves_home(net, place, far)]
                    self.assertEqual(homeward_rides(standing_of(net, place), home), rides)

    def test_the_row_takes_the_first_ride(self):
        for net, kind in small_kinds(TREES, TOTALS, 600):
            for home in range(net.stations):
                far = ropes_from(net, home)
                for here in kind[::1 + len(kind) // 3]:
                    row = homeward_row(standing_of(net, here), home)
                    for ride in row:
                        found = moves_home(net, here, far)
                        self.assertEqual(found[0][0], ride)
                        here = found[0][1]
                    self.assertEqual(moves_home(net, here, far), [])

    def test_all_orders_end_in_one_standing_of_the_kind(self):
        for net, kind in small_kinds(TREES, TOTALS, 600):
            for home in range(net.stations):
                ends = set()
                for place in kind[::1 + len(kind) // 4]:
                    end, many = homeward_end(net, place, home)
                    here = standing_of(net, place)
                    self.assertEqual(place_of(homeward_standing(here, home)), end)
                    self.assertEqual(len(homeward_row(here, home)), many)
                    self.assertEqual(numbers_of(here, home), numbers_in(net, end, home))
                    ends.add(end)
                self.assertEqual(len(ends), 1)
                self.assertIn(ends.pop(), kind)

    def test_some_orders_on_great_trees(self):
        rng = Random(7)
        for net in GREAT:
            for totals in ((15, 15), (30, 0), (2, 1)):
                place, home = some_place(net, *totals, rng), rng.randrange(24)
                here = standing_of(net, place)
                end, many = some_homeward_end(net, place, home, rng)
                row = homeward_row(here, home)
                self.assertEqual(len(row), many)
                self.assertEqual(row[:1], homeward_rides(here, home)[:1])
                self.assertEqual(place_of(end_of(here, *row)), end)
                self.assertEqual(place_of(homeward_standing(here, home)), end)
                self.assertEqual(numbers_of(here, home), numbers_in(net, end, home))

    def test_alike_exactly_if_the_homeward_standing_is_the_same(self):
        for net in TREES:
            for reds, blues in ((1, 1), (2, 1), (0, 2)):
                for home in range(net.stations):
                    found = {}
                    for place in places_with(net, reds, blues):
                        key = homeward_standing(standing_of(net, place), home).key()
                        found.setdefault(key, []).append(place)
                    self.assertEqual(sorted(found.values()), sorted(kinds_of(net, reds, blues)))


class Numbers(Case):

    def test_the_example(self):
        there = from_numbers(Net.row(3), 0, [2, -2], 3, 1)
        self.assertEqual((there.reds, there.blues, there.cars), ((1, 2, 0), (0, 0, 1), (0, 1)))
        self.assertEqual(numbers_of(there, 0), [2, -2])

    def test_every_row_of_numbers_is_one_kind(self):
        for net in TREES:
            for reds, blues in ((0, 0), (1, 0), (1, 1), (2, 1), (0, 3)):
                for home in range(net.stations):
                    rows = []
                    for numbers in number_rows(len(net.ropes), reds, blues):
                        there = from_numbers(net, home, list(numbers), reds, blues)
                        self.assertEqual(numbers_in(net, place_of(there), home), list(numbers))
                        self.assertEqual((there.red_total, there.blue_total), (reds, blues))
                        self.assertEqual(moves_home(net, place_of(there), ropes_from(net, home)), [])
                        rows.append(list(numbers))
                    kinds = kinds_of(net, reds, blues)
                    found = sorted(numbers_of(standing_of(net, kind[-1]), home) for kind in kinds)
                    self.assertEqual(found, rows)

    def test_great_trees(self):
        rng = Random(8)
        for net in GREAT:
            numbers = [0] * 23
            for _ in range(12):
                numbers[rng.randrange(23)] += 1
            numbers = [number or -1 for number in numbers]
            at = numbers.index(-1)
            numbers[at] = -16
            there = from_numbers(net, 3, numbers, 15, 15)
            self.assertEqual(numbers_in(net, place_of(there), 3), numbers)
            self.assertEqual((there.reds[3], there.blues[3]), (3, 0))
            self.assertEqual(numbers_of(there, 3), numbers)

    def test_a_ride_changes_no_number(self):
        rng = Random(9)
        for net in GREAT:
            _, places = some_row(net, some_place(net, 9, 9, rng), 200, rng)
            kept = numbers_of(standing_of(net, places[0]), 5)
            self.assertEqual([numbers_of(standing_of(net, place), 5) for place in places[::40]], [kept] * 6)


class NumbersAndBooks(Case):

    def by_rule(self, net, home, entries):
        """The rule of point 31, by asking for each rope again."""
        lows = lower_ends(net, home)

        def number(rope):
            low = lows[rope]
            others = [k for k, ends in enumerate(net.ropes) if low in ends and k != rope]
            return entries[low] + sum(1 for k in others if number(k) >= 0)
        return [number(rope) for rope in range(len(net.ropes))]

    def test_the_rule_for_any_books(self):
        rng = Random(10)
        for net in TREES + GREAT:
            for most in (1, 3, 10 ** 17):
                entries = [rng.randrange(-most, most + 1) for _ in range(net.stations)]
                home = rng.randrange(net.stations)
                found = numbers_of_books(net, home, Books(entries))
                self.assertEqual(found, self.by_rule(net, home, entries))
                entries[home] += 5
                self.assertEqual(numbers_of_books(net, home, Books(entries)), found)

    def test_books_of_a_standing_give_its_numbers(self):
        rng = Random(11)
        for net in TREES + GREAT:
            here = standing_of(net, some_place(net, 4, 5, rng))
            for home in range(net.stations):
                self.assertEqual(numbers_of_books(net, home, books_of(here)), numbers_of(here, home))

    def test_standing_of_books_against_all_standings(self):
        rng = Random(12)
        for net in TREES:
            for reds, blues in ((0, 0), (1, 1), (2, 1)):
                known = {}
                for place in places_with(net, reds, blues):
                    entries = tuple(book_of(net, place, station) for station in range(net.stations))
                    known.setdefault(entries, place)
                for entries, place in known.items():
                    found = standing_of_books(net, Books(list(entries)), reds, blues)
                    self.assertEqual(place_of(found), homeward_end(net, place, 0)[0])
                    self.assertEqual(books_of(found), Books(entries))
                for entries in sorted(known):
                    other = list(entries)
                    other[rng.randrange(net.stations)] += rng.choice((-1, 1, 2, FAR))
                    other[rng.randrange(net.stations)] += rng.choice((-1, 1, 2, -FAR))
                    found = standing_of_books(net, Books(other), reds, blues)
                    self.assertEqual(found is None, tuple(other) not in known)

    def test_standing_of_books_on_great_trees(self):
        rng = Random(13)
        for net in GREAT:
            here = standing_of(net, some_place(net, 14, 16, rng))
            books = books_of(here)
            there = standing_of_books(net, books, 14, 16)
            self.assertEqual(there, homeward_standing(here, 0))
            self.assertTrue(are_alike(here, there))
            self.assertIsNone(standing_of_books(net, books, 15, 15))
            self.assertIsNone(standing_of_books(net, books, 15, 14))
            self.assertIsNone(standing_of_books(net, books + Books([1] + [0] * 23), 14, 16))
            self.assertIsNone(standing_of_books(net, Books([FAR] + [0] * 22 + [-FAR]), 14, 16))

    def test_rehome_there_and_back(self):
        for net, kind in small_kinds(TREES, TOTALS, 600):
            here = standing_of(net, kind[-1])
            totals = (here.red_total, here.blue_total)
            for home in range(net.stations):
                numbers = numbers_of(here, home)
                for new_home in range(net.stations):
                    moved = rehome(net, home, numbers, *totals, new_home)
                    self.assertEqual(moved, numbers_in(net, homeward_end(net, kind[0], new_home)[0], new_home))
                    self.assertEqual(rehome(net, new_home, moved, *totals, home), numbers)

    def test_rehome_on_great_trees(self):
        rng = Random(14)
        for net in GREAT:
            here = standing_of(net, some_place(net, 15, 15, rng))
            numbers = numbers_of(here, 0)
            moved = rehome(net, 0, numbers, 15, 15, 23)
            self.assertEqual(moved, numbers_of(here, 23))
            self.assertEqual(rehome(net, 23, moved, 15, 15, 0), numbers)


class Errors(Case):

    def entries(self, net, home):
        here = Standing.gathered(net, 1, 1)
        return [
            lambda: homeward_rides(here, home), lambda: homeward_standing(here, home),
            lambda: homeward_row(here, home), lambda: numbers_of(here, home),
            lambda: from_numbers(net, home, [0], -1, 40), lambda: numbers_of_books(net, home, Books([])),
            lambda: rehome(net, home, [0], -1, 40, 99),
        ]

    def test_not_a_tree(self):
        for net in RINGS + OTHERS + [great_net()]:
            for home in (0, -1, FAR):
                for entry in self.entries(net, home):
                    self.fails(entry, NotATree)
            self.fails(lambda: standing_of_books(net, Books([]), -1, 0), NotATree)

    def test_no_station(self):
        for net in (Net(1, []), Net.row(4), great_tree()):
            for home in (-1, net.stations, FAR, -FAR):
                for entry in self.entries(net, home):
                    self.fails(entry, NoStation, home)
                self.fails(lambda: rehome(net, 0, [], 1, 1, home), NoStation, home)

    def totals(self):
        return [(-1, -2, BadCount, -1), (-FAR, FAR, BadCount, -FAR), (3, -FAR, BadCount, -FAR), (0, 31, TooMany, 30),
                (31, 0, TooMany, 30), (16, 15, TooMany, 30), (FAR, 40, TooMany, 30)]

    def test_totals(self):
        net = Net.row(3)
        for reds, blues, error, value in self.totals():
            self.fails(lambda: from_numbers(net, 0, [FAR], reds, blues), error, value)
            self.fails(lambda: standing_of_books(net, Books([1]), reds, blues), error, value)
            self.fails(lambda: rehome(net, 0, [FAR], reds, blues, 9), error, value)
            self.fails(lambda: rehome(net, 9, [FAR], reds, blues, 0), NoStation, 9)

    def test_bad_numbers_and_short(self):
        net = Net.row(3)
        cases = [
            ([], BadNumbers, (0,)), ([FAR], BadNumbers, (1,)), ([-FAR, 9, 9], BadNumbers, (3,)),
            ([2, 1], Short, ("red", 1)), ([FAR, -FAR], Short, ("red", FAR - 2)), ([0, 3], Short, ("red", 1)),
            ([-3, 0], Short, ("blue", 1)), ([-2, -2], Short, ("blue", 1)), ([1, -FAR], Short, ("blue", FAR - 2)),
        ]
        for numbers, error, values in cases:
            self.fails(lambda: from_numbers(net, 1, numbers, 2, 1), error, *values)
            self.fails(lambda: rehome(net, 1, numbers, 2, 1, 0), error, *values)
            self.fails(lambda: rehome(net, 1, numbers, 2, 1, 3), NoStation, 3)
        self.assertEqual(from_numbers(net, 1, [2, -2], 2, 1).key(), (2, 0, 0, 0, 0, 1, 1, 1))

    def test_other_size(self):
        net = Net.row(3)
        for many in (0, 2, 4, 100):
            books = Books([0] * many)
            self.fails(lambda: numbers_of_books(net, 2, books), OtherSize, many, 3)
            self.fails(lambda: standing_of_books(net, books, 1, 0), OtherSize, many, 3)

    def test_moves_of_the_oracle_are_rides(self):
        net = Net.row(3)
        place = ((0, 1, 0), (0, 1, 0), (0, 0))
        self.assertEqual([ride for ride, _ in moves(net, place)], [(0, "blue"), (1, "red")])
        self.assertEqual([ride for ride, _ in moves_home(net, place, [0, 1, 2])], [(0, "blue")])


if __name__ == "__main__":
    unittest.main()
