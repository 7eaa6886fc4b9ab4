"""Points 18 to 20: arrows, meeting, dead and live."""

import unittest
from random import Random

from case import Case
from oracle import (SMALL_NETS, arrows_at, closure, great_net, guests_somewhere, joined, meets, place_of,
                    ropes_that_run, shortest_meeting, small_kinds, some_place, standing_of, where)
from twinrope.arrows import (arrows_of, blue_reach, can_meet, dead_stations, live_parts, live_ropes, meet_row,
                             meeting_way, red_reach)
from twinrope.errors import NeverMeet
from twinrope.nets import Net
from twinrope.rides import end_of
from twinrope.standings import Standing


def some_great_places():
    """Places of the greatest net, among them some in which no guests can meet."""
    net, rng = great_net(), Random(9)
    every = [(30, 0), (0, 30), (0, 0), (1, 1), (2, 2), (15, 15), (1, 0), (0, 1)]
    return net, [some_place(net, *totals, rng) for totals in every for _ in range(12)]


class Arrows(Case):

    def test_arrows(self):
        here = Standing(Net(3, [(0, 1), (0, 1), (2, 1)]), [0] * 3, [0] * 3, [0, 1, 1])
        self.assertEqual(arrows_of(here), [(0, 1), (1, 0), (1, 2)])
        self.assertEqual(arrows_of(Standing(Net(1, []), [1], [1], [])), [])
        net, places = some_great_places()
        for place in places:
            self.assertEqual(arrows_of(standing_of(net, place)), arrows_at(net, place))

    def test_reach_on_a_row(self):
        here = Standing(Net.row(5), [0, 1, 0, 0, 0], [0, 0, 0, 1, 0], [0, 0, 1, 0])
        self.assertEqual(red_reach(here), [1, 2])
        self.assertEqual(blue_reach(here), [3])
        there = Standing(Net.row(5), [0, 0, 0, 0, 1], [0, 1, 0, 0, 0], [1, 1, 1, 1])
        self.assertEqual(red_reach(there), [0, 1, 2, 3, 4])
        self.assertEqual(blue_reach(there), [1, 2, 3, 4])

    def test_reach_without_guests(self):
        here = Standing(Net.row(3), [0] * 3, [0] * 3, [0, 1])
        self.assertEqual((red_reach(here), blue_reach(here)), ([], []))
        here = Standing(Net(1, []), [1], [0], [])
        self.assertEqual((red_reach(here), blue_reach(here)), ([0], []))

    def check_reach(self, net, place):
        arrows = arrows_at(net, place)
        here = standing_of(net, place)
        self.assertEqual(red_reach(here), closure(where(place[0]), arrows))
        self.assertEqual(blue_reach(here), closure(where(place[1]), [(end, start) for start, end in arrows]))

    def test_reach(self):
        rng = Random(3)
        for net in SMALL_NETS:
            for totals in ((0, 0), (1, 0), (0, 1), (1, 1), (2, 2)):
                for _ in range(6):
                    self.check_reach(net, some_place(net, *totals, rng))
        net, places = some_great_places()
        for place in places:
            self.check_reach(net, place)


class Meeting(Case):

    def test_a_way_without_ropes(self):
        here = Standing(Net.row(3), [1, 1, 1], [0, 1, 1], [0, 0])
        self.assertEqual(meeting_way(here), (1, []))
        self.assertEqual(meet_row(here), [])
        self.assertEqual(meeting_way(Standing(Net(1, []), [1], [1], [])), (0, []))

    def test_the_least_list_of_ropes(self):
        net = Net(4, [(2, 3), (0, 1), (0, 2), (1, 3), (0, 1)])
        here = Standing(net, [1, 0, 0, 0], [0, 0, 0, 1], [0] * 5)
        self.assertEqual(meeting_way(here), (0, [1, 3]))
        there = Standing(net, [1, 0, 0, 0], [0, 0, 0, 1], [0, 1, 0, 0, 0])
        self.assertEqual(meeting_way(there), (0, [2, 0]))
        self.assertEqual(meet_row(there), [(2, "red"), (0, "red")])

    def test_the_start_follows_from_the_ropes(self):
        net = Net(4, [(3, 1), (0, 1), (1, 2)])
        here = Standing(net, [1, 0, 0, 2], [0, 0, 1, 0], [0, 0, 0])
        self.assertEqual(meeting_way(here), (3, [0, 2]))

    def test_few_ropes_before_low_ropes(self):
        net = Net(3, [(0, 1), (1, 2), (0, 2)])
        self.assertEqual(meeting_way(Standing(net, [1, 0, 0], [0, 0, 1], [0, 0, 0])), (0, [2]))

    def test_never(self):
        for reds, blues, cars in (([1, 0], [0, 1], [1]), ([1, 0], [0, 0], [0]), ([0, 0], [0, 1], [0]),
                                  ([0, 0], [0, 0], [0])):
            here = Standing(Net.row(2), reds, blues, cars)
            self.assertIs(can_meet(here), False)
            self.assertIsNone(meeting_way(here))
            self.fails(lambda: meet_row(here), NeverMeet)

    def check_meeting(self, net, place):
        here = standing_of(net, place)
        way = shortest_meeting(net, place)
        self.assertEqual(meeting_way(here), way)
        self.assertIs(can_meet(here), way is not None)
        if way is None:
            self.fails(lambda: meet_row(here), NeverMeet)
            return
        self.assertIsInstance(meeting_way(here), tuple)
        self.assertIsInstance(meeting_way(here)[1], list)
        self.assertEqual(meet_row(here), [(rope, "red") for rope in way[1]])
        there = end_of(here, *meet_row(here))
        self.assertTrue(any(red and blue for red, blue in zip(there.reds, there.blues)))

    def test_ways(self):
        rng = Random(4)
        for net in SMALL_NETS:
            for totals in ((0, 0), (1, 0), (0, 2), (1, 1), (2, 2), (3, 1)):
                for _ in range(10):
                    self.check_meeting(net, some_place(net, *totals, rng))
        net, places = some_great_places()
        for place in places:
            self.check_meeting(net, place)


class Kinds(Case):

    def test_against_all_alike_standings(self):
        for net, kind in small_kinds():
            stations = range(net.stations)
            alive = guests_somewhere(kind)
            live = ropes_that_run(net, kind)
            expected = (meets(kind), [s for s in stations if s not in alive], live,
                        joined(alive, [net.ropes[rope] for rope in live]))
            for place in kind[::1 + len(kind) // 6]:
                here = standing_of(net, place)
                found = can_meet(here), dead_stations(here), live_ropes(here), live_parts(here)
                self.assertEqual(found, expected)

    def test_no_guests(self):
        here = Standing(great_net(), [0] * 24, [0] * 24, [0, 1] * 20)
        self.assertEqual(dead_stations(here), list(range(24)))
        self.assertEqual((live_ropes(here), live_parts(here)), ([], []))
        alone = Standing(Net(1, []), [0], [0], [])
        self.assertEqual((dead_stations(alone), live_ropes(alone), live_parts(alone)), ([0], [], []))

    def test_one_station(self):
        for reds, blues in ((1, 0), (0, 1), (1, 1)):
            here = Standing(Net(1, []), [reds], [blues], [])
            self.assertEqual((dead_stations(here), live_ropes(here), live_parts(here)), ([], [], [[0]]))

    def test_a_circle_that_no_guest_reaches(self):
        net = Net(4, [(0, 1), (1, 2), (2, 3), (3, 1)])
        here = Standing(net, [1, 0, 0, 0], [0, 0, 0, 0], [1, 0, 0, 0])
        self.assertEqual(dead_stations(here), [1, 2, 3])
        self.assertEqual((live_ropes(here), live_parts(here)), ([], [[0]]))

    def test_parts_in_order(self):
        here = Standing(Net.row(5), [0, 0, 1, 0, 0], [0, 0, 0, 0, 1], [1, 1, 1, 0])
        self.assertEqual(live_parts(here), [[0, 1, 2], [3, 4]])
        there = Standing(Net.row(5), [1, 0, 0, 0, 1], [0, 0, 1, 0, 0], [1, 0, 1, 0])
        self.assertEqual(dead_stations(there), [])
        self.assertEqual(live_ropes(there), [1, 2])
        self.assertEqual(live_parts(there), [[0], [1, 2, 3], [4]])

    def test_the_greatest_net(self):
        net, places = some_great_places()
        for place in places:
            here = standing_of(net, place)
            if shortest_meeting(net, place) is not None:
                found = dead_stations(here), live_ropes(here), live_parts(here)
                self.assertEqual(found, ([], list(range(40)), [list(range(24))]))
                continue
            arrows = arrows_at(net, place)
            reds = closure(where(place[0]), arrows)
            blues = closure(where(place[1]), [(end, start) for start, end in arrows])
            live = [rope for rope, (start, end) in enumerate(arrows) if start in reds or end in blues]
            self.assertEqual(dead_stations(here), [s for s in range(24) if s not in reds + blues])
            self.assertEqual(live_ropes(here), live)
            parts = joined(sorted(set(reds + blues)), [net.ropes[rope] for rope in live])
            self.assertEqual(live_parts(here), parts)
            self.assertEqual(place_of(here), place)


if __name__ == "__main__":
    unittest.main()
