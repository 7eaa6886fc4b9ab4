"""Point 70: tables."""

import unittest
from random import Random

from case import FAR, Case
from oracle import SMALL_NETS, book_of, great_net, great_tree, kinds_of, number_rows, some_place, standing_of
from twinrope.counts import kind_count
from twinrope.errors import BadCount, TooMany
from twinrope.nets import Net
from twinrope.standings import Standing
from twinrope.tables import kind_table, table_of


def right(word, width):
    return " " * (width - len(str(word))) + str(word)


class TableOf(Case):

    def test_the_example_of_the_document(self):
        self.assertEqual(table_of(Standing(Net.row(2), [2, 0], [0, 1], [0])),
                         [" at reds blues cars  book", "  0    2     0    1     1", "  1    0     1    0    -1",
                          "sum    2     1    1     0"])

    def test_sign_by_sign(self):
        rng = Random(70)
        for net in SMALL_NETS + [great_net(), great_tree(), Net(2, [(0, 1)] * 40), Net(1, [])]:
            for totals in ((0, 0), (2, 1), (30, 0), (0, 30)):
                place = some_place(net, *totals, rng)
                lines = [("at", "reds", "blues", "cars", "book")]
                sums = [0, 0, 0, 0]
                for station in range(net.stations):
                    cars = sum(1 for car, ends in zip(place[2], net.ropes) if ends[car] == station)
                    row = [place[0][station], place[1][station], cars, book_of(net, place, station)]
                    sums = [many + more for many, more in zip(sums, row)]
                    lines.append((station, *row))
                lines.append(("sum", *sums))
                wanted = ["".join(right(word, width) for word, width in zip(line, (3, 5, 6, 5, 6))) for line in lines]
                self.assertEqual(table_of(standing_of(net, place)), wanted)
                self.assertEqual(sums[2], len(net.ropes))
                self.assertTrue(all(len(line) == 25 for line in wanted))

    def test_returned_lists_are_new(self):
        here = Standing.gathered(Net.row(2), 1, 1)
        kept = list(table_of(here))
        table_of(here).append("spoilt")
        self.assertEqual(table_of(here), kept)


class KindTable(Case):

    def test_small_tables(self):
        for ropes in range(4):
            for most in range(4):
                wanted = ["".join(right(len(number_rows(ropes, reds, blues)), 8) for blues in range(most + 1))
                          for reds in range(most + 1)]
                self.assertEqual(kind_table(ropes, most), wanted)
        self.assertEqual(kind_table(0, 0), ["       1"])
        self.assertEqual(kind_table(1, 1), ["       2       3", "       3       4"])
        self.assertEqual(kind_table(1, 1)[1][8:], right(len(kinds_of(Net.row(2), 1, 1)), 8))

    def test_great_tables(self):
        for ropes in (0, 1, 10, 23, 40):
            for most in (0, 9, 15):
                wanted = ["".join(right(kind_count(ropes, reds, blues), 8) for blues in range(most + 1))
                          for reds in range(most + 1)]
                self.assertEqual(kind_table(ropes, most), wanted)
                self.assertEqual(len(wanted), most + 1)

    def test_numbers_of_more_than_eight_digits(self):
        line = kind_table(40, 15)[15]
        self.assertTrue(line.endswith(str(kind_count(40, 15, 15))))
        self.assertGreater(len(line), 16 * 8)
        self.assertNotIn(" ", line)
        self.assertEqual(kind_table(40, 0), [str(2 ** 40)])
        self.assertEqual((kind_table(26, 0), kind_table(27, 0)), (["67108864"], ["134217728"]))

    def test_errors(self):
        for ropes in (-1, -FAR):
            for most in (0, -1, 16, FAR):
                self.fails(lambda: kind_table(ropes, most), BadCount, ropes)
        for ropes in (41, FAR):
            for most in (0, -1, 16, FAR):
                self.fails(lambda: kind_table(ropes, most), TooMany, 40)
        for ropes in (0, 40):
            for most in (-1, -FAR):
                self.fails(lambda: kind_table(ropes, most), BadCount, most)
            for most in (16, 31, FAR):
                self.fails(lambda: kind_table(ropes, most), TooMany, 15)

    def test_returned_lists_are_new(self):
        kind_table(1, 1).append("spoilt")
        self.assertEqual(kind_table(1, 1), ["       2       3", "       3       4"])


if __name__ == "__main__":
    unittest.main()
