"""The arrows of ropes, and what follows from them (points 18 to 20)."""

from twinrope.errors import NeverMeet
from twinrope.ways import rope_steps, shortest_way, stations_reached, turned


def arrows_of(standing):
    ropes = range(len(standing.net.ropes))
    return [(standing.red_car(rope), standing.blue_car(rope)) for rope in ropes]


def arrow_steps(standing):
    return [(start, end, rope) for rope, (start, end) in enumerate(arrows_of(standing))]


def stations_with(guests):
    return [station for station, many in enumerate(guests) if many > 0]


def red_reach(standing):
    return stations_reached(stations_with(standing.reds), arrow_steps(standing))


def blue_reach(standing):
    return stations_reached(stations_with(standing.blues), turned(arrow_steps(standing)))


def can_meet(standing):
    return meeting_way(standing) is not None


def meeting_way(standing):
    return shortest_way(stations_with(standing.reds), stations_with(standing.blues), arrow_steps(standing))


def meet_row(standing):
    way = meeting_way(standing)
    if way is None:
        raise NeverMeet()
    return [(rope, "red") for rope in way[1]]


def dead_stations(standing):
    if can_meet(standing):
        return []
    reached = red_reach(standing) + blue_reach(standing)
    return [station for station in range(standing.net.stations) if station not in reached]


def dead_ropes(standing):
    """The ropes whose two ends are dead."""
    dead = dead_stations(standing)
    return [rope for rope, (start, end) in enumerate(standing.net.ropes) if start in dead and end in dead]


def live_ropes(standing):
    ropes = range(len(standing.net.ropes))
    if can_meet(standing):
        return list(ropes)
    reds = red_reach(standing)
    blues = blue_reach(standing)
    return [rope for rope in ropes if standing.red_car(rope) in reds or standing.blue_car(rope) in blues]


def live_parts(standing):
    live = live_ropes(standing)
    dead = dead_stations(standing)
    steps = [(start, end, rope) for start, end, rope in rope_steps(standing.net.ropes) if rope in live]
    parts = []
    placed = list(dead)
    for station in range(standing.net.stations):
        if station not in placed:
            part = stations_reached([station], steps)
            parts.append(part)
            placed.extend(part)
    return parts
