"""Rides and rows of rides (points 11 and 12)."""

from twinrope.checks import COLOURS, check_ride, check_rides
from twinrope.errors import BrokenRow, NoRide
from twinrope.standings import Standing


def can_ride(standing, rope, colour):
    check_ride(standing.net, rope, colour)
    return guests_of(standing, colour)[car_of(standing, rope, colour)] > 0


def after_ride(standing, rope, colour):
    if not can_ride(standing, rope, colour):
        raise NoRide(rope, colour)
    return ridden(standing, rope, colour)


def rides_from(standing):
    ropes = range(len(standing.net.ropes))
    return [(rope, colour) for rope in ropes for colour in COLOURS if can_ride(standing, rope, colour)]


def walk(standing, rides):
    check_rides(standing.net, rides)
    places = [standing]
    for step, (rope, colour) in enumerate(rides):
        if not can_ride(places[-1], rope, colour):
            raise BrokenRow(step, rope, colour)
        places.append(ridden(places[-1], rope, colour))
    return places


def end_of(standing, *rides, back=False):
    # The ropes and colours are checked in the order of the call, whatever the order of the rides.
    check_rides(standing.net, rides)
    if back:
        return walk(standing, rides[::-1])[-1]
    return walk(standing, rides)[-1]


def guests_of(standing, colour):
    if colour == "red":
        return standing.reds
    return standing.blues


def car_of(standing, rope, colour):
    if colour == "red":
        return standing.red_car(rope)
    return standing.blue_car(rope)


def ridden(standing, rope, colour):
    """The standing after a ride that is known to be possible."""
    start = car_of(standing, rope, colour)
    end = standing.net.other_end(rope, start)
    cars = with_turned(standing.cars, rope)
    if colour == "red":
        return Standing(standing.net, with_moved(standing.reds, start, end), standing.blues, cars)
    return Standing(standing.net, standing.reds, with_moved(standing.blues, start, end), cars)


def with_moved(guests, start, end):
    """The guests at each station after one of them has gone from the start to the end."""
    after = list(guests)
    after[start] -= 1
    after[end] += 1
    return after


def with_turned(cars, rope):
    after = list(cars)
    after[rope] = 1 - after[rope]
    return after


def end_or_none(standing, rides):
    """The last standing of the walk; None if it breaks, also at a rope or a word that does not exist."""
    here = standing
    for rope, colour in rides:
        if not 0 <= rope < len(here.net.ropes) or colour not in COLOURS or not can_ride(here, rope, colour):
            return None
        here = ridden(here, rope, colour)
    return here
