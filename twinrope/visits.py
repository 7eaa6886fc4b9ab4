"""Rows of rides that bring a guest to a station or run a rope (point 23)."""

from twinrope.arrows import arrow_steps, can_meet, meet_row, meeting_way, stations_with
from twinrope.checks import COLOURS, check_rope, check_station
from twinrope.errors import Dead, Still
from twinrope.rides import can_ride, car_of, end_of, guests_of
from twinrope.ways import end_of_way, rope_steps, shortest_way, turned


def visit_row(standing, station):
    check_station(standing.net, station)
    rows = [lone_row(standing, [station], colour) for colour in COLOURS]
    found = [row for row in rows if row is not None]
    if found:
        return min(found, key=len)
    if not can_meet(standing):
        raise Dead(station)
    # The last ride brings the second guest of the pair; one guest is enough.
    return pair_row(standing, [station])[:-1]


def run_rope(standing, rope):
    check_rope(standing.net, rope)
    found = []
    for colour in COLOURS:
        row = lone_row(standing, [car_of(standing, rope, colour)], colour)
        if row is not None:
            found.append(row + [(rope, colour)])
    if found:
        return min(found, key=len)
    if not can_meet(standing):
        raise Still(rope)
    row = pair_row(standing, standing.net.ends(rope))
    there = end_of(standing, *row)
    if can_ride(there, rope, "red"):
        return row + [(rope, "red")]
    return row + [(rope, "blue")]


def lone_row(standing, goals, colour):
    """A shortest row in which one guest rides alone to one of the goals, or None if none can."""
    steps = arrow_steps(standing)
    if colour == "blue":
        steps = turned(steps)
    way = shortest_way(stations_with(guests_of(standing, colour)), goals, steps)
    if way is None:
        return None
    return [(rope, colour) for rope in way[1]]


def pair_row(standing, goals):
    """A row in which a red and a blue guest meet, and then ride to the nearest goal together."""
    row = meet_row(standing)
    here = end_of(standing, *row)
    place = meeting_place(standing)
    ropes = shortest_way([place], goals, rope_steps(standing.net.ropes))[1]
    return row + pair_rides(here, place, ropes)


def pair_rides(standing, place, ropes):
    """The rides in which a red and a blue guest at the place ride over the ropes of a way together.

    One of them always has a car at hand, and brings the other car for the other guest. So the cars stand as before.
    """
    row = []
    for rope in ropes:
        if standing.red_car(rope) == place:
            row.extend([(rope, "red"), (rope, "blue")])
        else:
            row.extend([(rope, "blue"), (rope, "red")])
        place = standing.net.other_end(rope, place)
    return row


def meeting_place(standing):
    start, ropes = meeting_way(standing)
    return end_of_way(standing.net, start, ropes)
