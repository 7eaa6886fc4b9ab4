"""Steps of the house Together, and a red and a blue guest who ride about together in it."""

from twinrope.checks import COLOURS
from twinrope.rides import can_ride, car_of, ridden, with_moved, with_turned
from twinrope.standings import Standing
from twinrope.visits import pair_rides
from twinrope.ways import end_of_way, rope_steps, shortest_way

WORDS = ("red", "blue", "both")


def can_step_together(standing, rope, word):
    if word == "both":
        return all([can_ride(standing, rope, colour) for colour in COLOURS])
    return can_ride(standing, rope, word)


def stepped_together(standing, rope, word):
    """The standing after a step that is known to be possible."""
    if word != "both":
        return ridden(standing, rope, word)
    red = car_of(standing, rope, "red")
    blue = car_of(standing, rope, "blue")
    reds = with_moved(standing.reds, red, blue)
    blues = with_moved(standing.blues, blue, red)
    return Standing(standing.net, reds, blues, with_turned(standing.cars, rope))


class Pair:
    """A red and a blue guest who have met, the steps that were taken, and the standing behind them."""

    def __init__(self, standing, way):
        start, ropes = way
        self.here = standing
        self.taken = []
        self.place = end_of_way(standing.net, start, ropes)
        self.take([(rope, "red") for rope in ropes])

    def take(self, steps):
        for rope, word in steps:
            self.here = stepped_together(self.here, rope, word)
        self.taken = self.taken + steps

    def go_to(self, goals):
        """To the nearest of the goals; the cars stand as before."""
        net = self.here.net
        ropes = shortest_way([self.place], goals, rope_steps(net.ropes))[1]
        self.take(pair_rides(self.here, self.place, ropes))
        self.place = end_of_way(net, self.place, ropes)

    def turn(self, rope):
        """Turns a rope that ends where the pair is; the pair is there again."""
        first, second = COLOURS
        if car_of(self.here, rope, "red") != self.place:
            first, second = second, first
        self.take([(rope, first), (rope, "both"), (rope, second)])

    def lead(self, rope, colour):
        """Goes over a rope with a third guest, of this colour, who is there."""
        if car_of(self.here, rope, colour) != self.place:
            self.turn(rope)
        partner = "blue" if colour == "red" else "red"
        self.take([(rope, colour), (rope, partner), (rope, colour)])
        self.place = self.here.net.other_end(rope, self.place)
