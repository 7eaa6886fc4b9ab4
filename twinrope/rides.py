"""Rides and rows of rides (points 11 and 12)."""

from twinrope.checks import COLOURS, check_ride, check_rides
from twinrope.errors import BrokenRow, NoRide
from twinrope.standings import Standing


def can_ride(standing, rope, colour):
    check_ride(standing.net, rope, colour)
    return guests_of(standing, colour)[car_of(standing, rope, colour)] > 0


def after_ride(standing, rope, colour):
    if not can_ride(standing, rope, colour):
        raise NoRide(rope, colour)
    return ridden(standing, rope, colour)


def rides_from(standing):
    ropes = range(len(standing.net.ropes))
    return [(rope, colour) for rope in ropes for colour in COLOURS if can_ride(standing, rope, colour)]


def walk(standing, rides):
    check_rides(standing.net, rides)
    places = [standing]
    for step, (rope, colour) in enumerate(rides):
        if not can_ride(places[-1], rope, colour):
            raise BrokenRow(step, rope, colour)
        places.append(ridden(places[-1], rope, colour))
    return places


def end_of(standing, *rides, back=False):
    # The ropes and colours are checked in the order of the call, whatever the order of the rides.
    check_rides(standing.net, rides)
    if back:
        return walk(standing, rides[::-1])[-1]
    return walk(standing, rides)[-1]


def guests_of(standing, colour):
    if colour == "red":
        return standing.reds
    return standing.blues


def car_of(standing, rope, colour):
    if colour == "red":
        return standing.red_car(rope)
    return standing.blue_car(rope)


def ridden(standing, rope, colour):
    """The standing after a ride that is known to be possible."""
    start = car_of(standing, rope, colour)
    end = standing.net.other_end(rope, start)
    cars = list(standing.cars)
    cars[rope] = 1 - cars[rope]
    moved = list(guests_of(standing, colour))
    moved[start] -= 1
    moved[end] += 1
    if colour == "red":
        return Standing(standing.net, moved, standing.blues, cars)
    return Standing(standing.net, standing.reds, moved, cars)
