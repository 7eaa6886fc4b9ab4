"""Rows of rides as values that belong to no net (point 13)."""

from twinrope.checks import COLOURS
from twinrope.errors import BadCount, BadRide, NoRope, NoStep


class Trip:
    """A row of rides as a value."""

    def __init__(self, rides):
        for place, (rope, colour) in enumerate(rides):
            if rope < 0 or colour not in COLOURS:
                raise BadRide(place)
        self.rides = tuple([(rope, colour) for rope, colour in rides])

    def reduced(self):
        kept = []
        for ride in self.rides:
            if kept and kept[-1] == ride:
                kept.pop()
            else:
                kept.append(ride)
        return Trip(kept)

    def tally(self, ropes):
        if ropes < 0:
            raise BadCount(ropes)
        for rope, _ in self.rides:
            if rope >= ropes:
                raise NoRope(rope)
        reds = [0] * ropes
        blues = [0] * ropes
        for rope, colour in self.rides:
            if colour == "red":
                reds[rope] += 1
            else:
                blues[rope] += 1
        return list(zip(reds, blues))

    def __add__(self, other):
        return Trip(self.rides + other.rides)

    def __invert__(self):
        return Trip(self.rides[::-1])

    def __eq__(self, other):
        return isinstance(other, Trip) and self.rides == other.rides

    def __len__(self):
        return len(self.rides)

    def __bool__(self):
        return bool(self.rides)

    def __getitem__(self, at):
        if not 0 <= at < len(self.rides):
            raise NoStep(at)
        return self.rides[at]

    def __iter__(self):
        return iter(self.rides)
