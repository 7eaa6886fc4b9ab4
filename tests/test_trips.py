"""Point 13: rows of rides as values."""

import unittest
from random import Random

from case import FAR, Case
from oracle import SMALL_NETS, place_of, some_place, some_row, standing_of
from twinrope.errors import BadCount, BadRide, NoRope, NoStep
from twinrope.rides import end_of, walk
from twinrope.trips import Trip

A, B, C = (0, "red"), (0, "blue"), (3, "red")


def reduced_otherwise(rides, rng):
    """The reduced row, with the removals in an order that the random source gives."""
    rides = list(rides)
    while True:
        places = [k for k in range(len(rides) - 1) if rides[k] == rides[k + 1]]
        if not places:
            return rides
        at = rng.choice(places)
        del rides[at:at + 2]


class Trips(Case):

    def test_rides(self):
        trip = Trip([A, C, A])
        self.assertEqual(trip.rides, (A, C, A))
        self.assertIsInstance(trip.rides, tuple)
        self.assertEqual(list(trip), [A, C, A])
        self.assertEqual([ride for ride in Trip([])], [])
        self.assertTrue(A in trip)
        self.assertFalse(B in trip)

    def test_bad_rides(self):
        for bad in ((-1, "red"), (-FAR, "blue"), (0, "green"), (0, ""), (0, "Red"), (-1, "green"), (2, "blue ")):
            for at in range(3):
                rides = [A, C]
                rides.insert(at, bad)
                self.fails(lambda: Trip(rides), BadRide, at)
        self.fails(lambda: Trip([A, (0, "x"), (-1, "red")]), BadRide, 1)
        self.fails(lambda: Trip([A, (-1, "red"), (0, "x")]), BadRide, 1)

    def test_any_rope_that_is_not_negative(self):
        self.assertEqual(Trip([(FAR, "red"), (0, "blue")]).rides, ((FAR, "red"), (0, "blue")))

    def test_equality(self):
        self.assertTrue(Trip([A, B]) == Trip([A, B]))
        self.assertFalse(Trip([A, B]) != Trip([A, B]))
        for other in ([B, A], [A], [A, B, B], [], [A, C], [A, (1, "blue")], [A, A]):
            self.assertFalse(Trip([A, B]) == Trip(other))
            self.assertTrue(Trip([A, B]) != Trip(other))
        self.assertEqual(Trip([]), Trip([]))

    def test_length_and_truth(self):
        self.assertEqual([len(Trip([A] * many)) for many in (0, 1, 2, 5000)], [0, 1, 2, 5000])
        self.assertIs(bool(Trip([])), False)
        self.assertIs(bool(Trip([A])), True)
        self.assertIs(bool(Trip([B, B])), True)

    def test_sums(self):
        self.assertEqual(Trip([A, B]) + Trip([C]), Trip([A, B, C]))
        self.assertEqual(Trip([C]) + Trip([A, B]), Trip([C, A, B]))
        self.assertEqual(Trip([A]) + Trip([A]), Trip([A, A]))
        self.assertEqual(Trip([]) + Trip([A]), Trip([A]))
        self.assertEqual(Trip([A]) + Trip([]), Trip([A]))

    def test_opposite(self):
        self.assertEqual(~Trip([A, B, C]), Trip([C, B, A]))
        self.assertEqual(~Trip([A, C]), Trip([C, A]))
        self.assertEqual(~Trip([]), Trip([]))
        self.assertEqual(~Trip([A]), Trip([A]))
        one, two = Trip([A, B]), Trip([C, C, A])
        self.assertEqual(~(one + two), ~two + ~one)
        self.assertEqual(one, Trip([A, B]))

    def test_items(self):
        trip = Trip([A, B, C])
        self.assertEqual([trip[at] for at in range(3)], [A, B, C])
        for at in (-1, 3, -3, FAR, -FAR):
            self.fails(lambda: trip[at], NoStep, at)
        for at in (0, -1):
            self.fails(lambda: Trip([])[at], NoStep, at)

    def test_reduced(self):
        cases = [
            ([], []), ([A], [A]), ([A, A], []), ([A, A, A], [A]), ([A, B, B, A], []), ([A, B, B, C], [A, C]),
            ([A, B, A, B], [A, B, A, B]), ([A, B, C, C, B, A], []), ([C, A, B, B, A, A], [C, A]),
            ([A, A, B], [B]), ([B, A, A], [B]), ([A, B], [A, B]), ([A, (1, "red")], [A, (1, "red")]),
        ]
        for rides, expected in cases:
            found = Trip(rides).reduced()
            self.assertIsInstance(found, Trip)
            self.assertEqual(found, Trip(expected))
            self.assertEqual((Trip(rides) + ~Trip(rides)).reduced(), Trip([]))

    def test_the_order_of_removals_does_not_matter(self):
        rng = Random(4)
        for _ in range(150):
            rides = [rng.choice([A, B, C]) for _ in range(rng.randrange(14))]
            self.assertEqual(list(Trip(rides).reduced()), reduced_otherwise(rides, rng))
        half = [rng.choice([A, B]) for _ in range(2500)]
        self.assertEqual(len(Trip(half + half[::-1]).reduced()), 0)

    def test_a_reduced_trip_leads_to_the_same_standing(self):
        rng = Random(5)
        for net in SMALL_NETS:
            for _ in range(4):
                rides, places = some_row(net, some_place(net, 2, 2, rng), 20, rng)
                here = standing_of(net, places[0])
                short = Trip(rides).reduced()
                self.assertEqual(place_of(end_of(here, *short.rides)), places[-1])
                self.assertEqual(walk(here, list(short))[-1], walk(here, rides)[-1])


class Tallies(Case):

    def test_tally(self):
        trip = Trip([A, B, A, C, (1, "blue"), A])
        self.assertEqual(trip.tally(4), [(3, 1), (0, 1), (0, 0), (1, 0)])
        self.assertEqual(trip.tally(5), [(3, 1), (0, 1), (0, 0), (1, 0), (0, 0)])
        self.assertEqual(Trip([]).tally(0), [])
        self.assertEqual(Trip([]).tally(2), [(0, 0), (0, 0)])
        self.assertEqual(Trip([(999, "blue")] * 5000).tally(1000), [(0, 0)] * 999 + [(0, 5000)])
        self.assertTrue(all(isinstance(pair, tuple) for pair in trip.tally(4)))

    def test_errors(self):
        trip = Trip([A, C, (7, "blue"), (5, "red")])
        self.fails(lambda: trip.tally(-1), BadCount, -1)
        self.fails(lambda: trip.tally(-FAR), BadCount, -FAR)
        self.fails(lambda: Trip([]).tally(-1), BadCount, -1)
        self.fails(lambda: trip.tally(0), NoRope, 0)
        self.fails(lambda: trip.tally(3), NoRope, 3)
        self.fails(lambda: trip.tally(5), NoRope, 7)
        self.fails(lambda: trip.tally(7), NoRope, 7)
        self.assertEqual(len(trip.tally(8)), 8)
        self.fails(lambda: Trip([(FAR, "red")]).tally(9), NoRope, FAR)


if __name__ == "__main__":
    unittest.main()
