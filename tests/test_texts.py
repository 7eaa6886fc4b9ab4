"""Points 14 and 15: standings and rows of rides as texts."""

import unittest
from random import Random

from case import FAR, Case
from oracle import SMALL_NETS, great_net, places_with, some_place, some_row, standing_of
from twinrope.errors import BadRide, BadText, BadWord, NotConnected
from twinrope.nets import Net
from twinrope.standings import Standing
from twinrope.texts import read_standing, read_trip, write_standing, write_trip
from twinrope.trips import Trip

GOOD = ["stations 4", "rope 0 1 red", "rope 3 1 blue", "rope 2 3 red", "guests 0 2 1", "guests 1 0 9", "guests 3 10 0"]
NUMBERS = ("", "-1", "+1", "01", "00", "1.", "a", "1a", "0x1", "100", "123", "010", "1_0", "\u00b2", "\u0663", "\t1", "-0", "_1")


def text_with(at, line):
    """The good text with another line at the index."""
    return "\n".join(GOOD[:at] + [line] + GOOD[at + 1:])


class StandingTexts(Case):

    def test_the_example(self):
        here = Standing(Net(2, [(1, 0)]), [2, 0], [1, 0], [1])
        self.assertEqual(write_standing(here), "stations 2\nrope 1 0 blue\nguests 0 2 1")
        self.assertEqual(read_standing("stations 2\nrope 1 0 blue\nguests 0 2 1"), here)

    def test_the_good_text(self):
        net = Net(4, [(0, 1), (3, 1), (2, 3)])
        here = Standing(net, [2, 0, 0, 10], [1, 9, 0, 0], [0, 1, 0])
        self.assertEqual(read_standing("\n".join(GOOD)), here)
        self.assertEqual(write_standing(here), "\n".join(GOOD))

    def test_small_texts(self):
        self.assertEqual(write_standing(Standing(Net(1, []), [0], [0], [])), "stations 1")
        self.assertEqual(read_standing("stations 1"), Standing(Net(1, []), [0], [0], []))
        self.assertEqual(read_standing("stations 1\nguests 0 0 30"), Standing(Net(1, []), [0], [30], []))
        self.assertEqual(read_standing("stations 1\nguests 0 30 0"), Standing(Net(1, []), [30], [0], []))
        self.assertEqual(write_standing(Standing(Net.row(2), [0, 0], [0, 3], [0])),
                         "stations 2\nrope 0 1 red\nguests 1 0 3")

    def test_what_is_written_is_read_as_equal(self):
        for net in SMALL_NETS:
            for totals in ((0, 0), (1, 0), (1, 1), (1, 2)):
                for place in places_with(net, *totals)[::7]:
                    here = standing_of(net, place)
                    self.assertEqual(read_standing(write_standing(here)), here)
        rng = Random(6)
        for net in (great_net(), Net.row(24), Net(2, [(0, 1), (1, 0)] * 20)):
            for reds in (0, 1, 12, 30):
                here = standing_of(net, some_place(net, reds, 30 - reds, rng))
                self.assertEqual(read_standing(write_standing(here)), here)

    def test_written_lines(self):
        here = standing_of(great_net(), some_place(great_net(), 11, 12, Random(7)))
        lines = write_standing(here).split("\n")
        self.assertEqual(lines[0], "stations 24")
        for rope, (start, end) in enumerate(here.net.ropes):
            self.assertEqual(lines[1 + rope], f"rope {start} {end} {('red', 'blue')[here.cars[rope]]}")
        stations = [s for s in range(24) if here.reds[s] + here.blues[s]]
        self.assertEqual(lines[41:], [f"guests {s} {here.reds[s]} {here.blues[s]}" for s in stations])


class BadStandingTexts(Case):

    def bad(self, text, line):
        self.fails(lambda: read_standing(text), BadText, line)

    def test_first_lines(self):
        words = ["", "stations", "stations ", "stations 0", "stations 25", "stations 99", "station 4", "Stations 4",
                 "stations 4 ", " stations 4", "stations  4", "stations 4 4", "4", "rope 0 1 red", "guests 0 1 1",
                 "stations four", "stations 4\t", "stations\t4", "stations 4\r", "stations,4"]
        for line in words + [f"stations {number}" for number in NUMBERS]:
            self.bad(text_with(0, line), 1)
            self.bad(line, 1)

    def test_every_number_of_stations(self):
        for stations in range(2, 25):
            text = "\n".join([f"stations {stations}"] + [f"rope {k} {k + 1} red" for k in range(stations - 1)])
            self.assertEqual(read_standing(text).net, Net.row(stations))

    def test_rope_lines(self):
        words = ["", "rope", "rope 0 1", "rope 0 1 red ", " rope 0 1 red", "rope  0 1 red", "rope 0  1 red",
                 "rope 0 1  red", "rope 0 1 green", "rope 0 1 Red", "rope 0 1 r", "rope 0 1 ", "rope 0 red 1",
                 "Rope 0 1 red", "ropes 0 1 red", "rope 0 1 red red", "rope 0 1 1 red", "rope 0 red", "rope 0 0 red",
                 "rope 3 3 blue", "rope 0 4 red", "rope 4 0 red", "rope 0 24 red", "rope 99 0 red", "stations 4",
                 "rope 0 1 redblue", "rope 0 1\tred", "rope 0 1 red\r", "0 1 red", "rope 0,1 red"]
        words += [f"rope {number} 2 red" for number in NUMBERS] + [f"rope 2 {number} red" for number in NUMBERS]
        for line in words:
            for at in (1, 2, 3):
                self.bad(text_with(at, line), at + 1)
                self.bad("\n".join(GOOD[:at] + [line]), at + 1)

    def test_guests_lines(self):
        words = ["", "guests", "guests 1 1", "guests 1 1 1 ", " guests 1 1 1", "guests  1 1 1", "guests 1  1 1",
                 "guests 1 1  1", "guests 1 1 1 1", "Guests 1 1 1", "guest 1 1 1", "guests 1 0 0", "guests 4 1 1",
                 "guests 24 1 1", "guests 99 1 1", "guests 1 31 0", "guests 1 0 31", "guests 1 15 16", "1 1 1",
                 "guests 1 99 99", "rope 0 0 red", "stations 4", "guests 1 1 red", "guests 1 1 1\r", "guests 1\t1 1"]
        for number in NUMBERS:
            words += [f"guests {number} 1 1", f"guests 1 {number} 1", f"guests 1 1 {number}"]
        for line in words:
            for at in (4, 5, 6):
                self.bad(text_with(at, line), at + 1)
                self.bad("\n".join(GOOD[:at] + [line]), at + 1)

    def test_a_rope_line_after_a_guests_line(self):
        self.bad("\n".join(GOOD[:4] + GOOD[4:5] + GOOD[1:2]), 6)
        self.bad("\n".join(GOOD + ["rope 0 1 red"]), 8)
        self.bad("stations 2\nguests 0 1 0\nrope 0 1 red", 3)

    def test_forty_one_rope_lines(self):
        lines = ["stations 2"] + ["rope 0 1 red"] * 40
        self.assertEqual(len(read_standing("\n".join(lines)).net.ropes), 40)
        self.assertEqual(read_standing("\n".join(lines + ["guests 1 1 1"])).reds, (0, 1))
        self.bad("\n".join(lines + ["rope 0 1 red"]), 42)
        self.bad("\n".join(lines + ["rope 0 1 red", "guests 1 1 1"]), 42)
        self.bad("\n".join(lines + ["rope 1 1 red"]), 42)

    def test_stations_of_guests_lines_ascend(self):
        self.bad(text_with(5, "guests 0 1 1"), 6)
        self.bad(text_with(6, "guests 1 1 1"), 7)
        self.bad(text_with(6, "guests 0 1 1"), 7)
        self.bad(text_with(4, "guests 1 1 1"), 6)
        self.bad("\n".join(GOOD + ["guests 3 1 1"]), 8)

    def test_more_than_thirty_guests(self):
        rope = "stations 2\nrope 0 1 red\n"
        self.assertEqual(read_standing(rope + "guests 0 15 5\nguests 1 5 5").red_total, 20)
        self.bad(rope + "guests 0 15 5\nguests 1 5 6", 4)
        self.bad(rope + "guests 0 15 5\nguests 1 6 5", 4)
        self.bad(rope + "guests 0 16 15\nguests 1 1 1", 3)
        self.bad(rope + "guests 0 30 0\nguests 1 0 1", 4)
        self.bad(rope + "guests 0 15 5\nguests 1 5 6\nguests 9 9 9", 4)

    def test_an_empty_last_line(self):
        for count in range(1, len(GOOD) + 1):
            self.bad("\n".join(GOOD[:count]) + "\n", count + 1)
        self.bad("", 1)
        self.bad("\n", 1)
        self.bad("stations 1\n", 2)
        self.bad("stations 1\n\n", 2)

    def test_other_ends_of_lines(self):
        self.bad("stations 2\r\nrope 0 1 red", 1)
        self.bad("stations 2\x0brope 0 1 red", 1)
        self.bad("stations 2\u2028rope 0 1 red", 1)

    def test_the_first_bad_line_decides(self):
        self.bad("stations 0\nrope 0 0 red\n", 1)
        self.bad("stations 3\nrope 0 0 red\nrope 0 9 red", 2)
        self.bad("stations 3\nrope 0 1 red\nrope 0 9 red\nguests 0 0 0", 3)
        self.bad("stations 3\nrope 0 1 red\nguests 0 0 0\nguests 0 0 0", 3)
        self.bad("stations 3\nrope 0 1 red\nguests 0 0 0\nrope 9 9 9", 3)

    def test_not_connected_comes_last(self):
        self.fails(lambda: read_standing("stations 2"), NotConnected, 1)
        self.fails(lambda: read_standing("stations 4\nrope 0 1 red\nrope 2 3 red"), NotConnected, 2)
        self.fails(lambda: read_standing("stations 3\nrope 0 2 red\nguests 0 1 1"), NotConnected, 1)
        self.bad("stations 3\nrope 0 2 red\nguests 0 1 1\n", 4)
        self.bad("stations 4\nrope 0 1 red\nrope 2 3 red\nguests 3 0 0", 4)


class TripTexts(Case):

    def test_write_and_read(self):
        cases = [
            ([], ""), ([(0, "red")], "r0"), ([(12, "blue")], "b12"), ([(99, "red"), (9, "blue")], "r99 b9"),
            ([(0, "blue"), (10, "red"), (0, "blue")], "b0 r10 b0"),
        ]
        for rides, text in cases:
            self.assertEqual(write_trip(rides), text)
            self.assertEqual(read_trip(text), rides)
            self.assertIsInstance(read_trip(text), list)
            self.assertEqual(write_trip(Trip(rides)), text)

    def test_every_word(self):
        rides = [(rope, colour) for rope in range(100) for colour in ("red", "blue")]
        text = " ".join(f"{colour[0]}{rope}" for rope, colour in rides)
        self.assertEqual(write_trip(rides), text)
        self.assertEqual(read_trip(text), rides)

    def test_a_long_row(self):
        rides, _ = some_row(great_net(), some_place(great_net(), 9, 9, Random(8)), 5000, Random(8))
        self.assertEqual(read_trip(write_trip(rides)), rides)

    def test_rides_that_cannot_be_written(self):
        for bad in ((-1, "red"), (100, "blue"), (FAR, "red"), (-FAR, "red"), (0, "green"), (0, ""), (0, "Red"),
                    (0, "r"), (100, "green"), (1, "blues")):
            for at in range(3):
                rides = [(0, "red"), (99, "blue")]
                rides.insert(at, bad)
                self.fails(lambda: write_trip(rides), BadRide, at)
        self.fails(lambda: write_trip([(0, "red"), (0, "x"), (-1, "red")]), BadRide, 1)
        self.fails(lambda: write_trip([(0, "red"), (100, "red"), (0, "x")]), BadRide, 1)

    def test_bad_words(self):
        words = ["", "r", "b", "0", "g0", "R0", "B1", "rr0", "r 0", "r0r", "0r", "red0", "rb", "r0b", "br0"]
        for word in words + [f"r{number}" for number in NUMBERS] + [f"b{number}" for number in NUMBERS]:
            for at in range(3):
                parts = ["r1", "b22"]
                parts.insert(at, word)
                if word != "r 0":
                    self.fails(lambda: read_trip(" ".join(parts)), BadWord, at)
            if word != "":
                self.fails(lambda: read_trip(word), BadWord, 0)

    def test_blanks_too_many(self):
        self.fails(lambda: read_trip(" "), BadWord, 0)
        self.fails(lambda: read_trip(" r1"), BadWord, 0)
        self.fails(lambda: read_trip("r1 "), BadWord, 1)
        self.fails(lambda: read_trip("r1  b2"), BadWord, 1)
        self.fails(lambda: read_trip("r1 b2 "), BadWord, 2)
        self.fails(lambda: read_trip("r1\nb2"), BadWord, 0)
        self.fails(lambda: read_trip("r1 b2\n"), BadWord, 1)
        self.fails(lambda: read_trip("r1\tb2"), BadWord, 0)

    def test_the_first_bad_word_decides(self):
        self.fails(lambda: read_trip("r1 x b00 r1"), BadWord, 1)
        self.fails(lambda: read_trip("r1 b00 x r1"), BadWord, 1)
        self.fails(lambda: read_trip("r1 b1 b2 "), BadWord, 3)


if __name__ == "__main__":
    unittest.main()
