"""Ways in a tree (point 24)."""

from twinrope.checks import check_rope, check_station, check_tree
from twinrope.ways import distances, rope_steps, shortest_way, stations_reached


def beyond(net, home, rope):
    check_tree(net)
    check_station(net, home)
    check_rope(net, rope)
    steps = [(start, end, other) for start, end, other in rope_steps(net.ropes) if other != rope]
    near = stations_reached([home], steps)
    return [station for station in range(net.stations) if station not in near]


def toward(net, home):
    check_tree(net)
    check_station(net, home)
    steps = rope_steps(net.ropes)
    far = distances([home], steps)
    begins = [None] * net.stations
    for start, end, rope in steps:
        if far[end] < far[start]:
            begins[start] = rope
    return begins


def way_between(net, start, end):
    check_tree(net)
    check_station(net, start)
    check_station(net, end)
    return shortest_way([start], [end], rope_steps(net.ropes))[1]
