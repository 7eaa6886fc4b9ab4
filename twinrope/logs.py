"""Logs, rows of rides that should lead from one standing to another, and what puts them right (point 64)."""

from twinrope.checks import check_rides, check_same_net
from twinrope.errors import TooMany
from twinrope.rides import can_ride, ridden, rides_from

MOST_LOGGED = 60


def log_holds(first, second, rides):
    check_log(first, second, rides)
    return standings_on_way(first, rides)[-1] == second


def odd_ropes(first, second, rides):
    check_log(first, second, rides)
    runs = [rope for rope, _ in rides]
    return [rope for rope, car in enumerate(first.cars)
            if (runs.count(rope) & 1 == 1) != (car != second.cars[rope])]


def mends(first, second, rides):
    check_log(first, second, rides)
    starts = standings_on_way(first, rides)
    ends = standings_before_way(rides, second)
    return [(step, ride) for step in range(len(rides)) for ride in rides_that_link(starts[step], ends[step + 1])
            if ride != rides[step]]


def inserts(first, second, rides):
    check_log(first, second, rides)
    starts = standings_on_way(first, rides)
    ends = standings_before_way(rides, second)
    return [(place, ride) for place in range(len(rides) + 1) for ride in rides_that_link(starts[place], ends[place])]


def deletes(first, second, rides):
    check_log(first, second, rides)
    starts = standings_on_way(first, rides)
    ends = standings_before_way(rides, second)
    return [step for step in range(len(rides)) if starts[step] is not None and starts[step] == ends[step + 1]]


def check_log(first, second, rides):
    check_same_net(first, second)
    check_rides(first.net, rides)
    if len(rides) > MOST_LOGGED:
        raise TooMany(MOST_LOGGED)


def standings_on_way(standing, rides):
    """The standings at the beginning and after each ride, with None behind a ride that is not possible."""
    places = [standing]
    for rope, colour in rides:
        here = places[-1]
        if here is not None and can_ride(here, rope, colour):
            places.append(ridden(here, rope, colour))
        else:
            places.append(None)
    return places


def standings_before_way(rides, standing):
    """The standings from which the rest of the rides, from each ride on, leads to the standing, or None.

    Each ride undoes itself, so these are the standings on the way back.
    """
    return standings_on_way(standing, rides[::-1])[::-1]


def rides_that_link(here, there):
    """The rides that lead from one standing to the other, of which either may be None."""
    if here is None or there is None:
        return []
    return [(rope, colour) for rope, colour in rides_from(here) if ridden(here, rope, colour) == there]
