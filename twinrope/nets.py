"""Nets of stations and ropes, and their shapes (points 7 and 8)."""

from twinrope.checks import check_rope, check_station
from twinrope.errors import BadNet, NotConnected, NotThere, TooMany
from twinrope.ways import rope_steps, stations_reached


class Net:
    """Stations that are joined by ropes, each with a first and a second end."""

    MOST_STATIONS = 24
    MOST_ROPES = 40

    def __init__(self, stations, ropes):
        check_size(stations)
        check_ropes(stations, ropes)
        reached = stations_reached([0], rope_steps(ropes))
        for station in range(stations):
            if station not in reached:
                raise NotConnected(station)
        self.stations = stations
        self.ropes = tuple([(start, end) for start, end in ropes])

    @classmethod
    def row(cls, stations):
        check_size(stations)
        return cls(stations, row_ropes(stations))

    @classmethod
    def ring(cls, stations):
        check_size(stations)
        if stations == 1:
            raise BadNet(-1)
        return cls(stations, row_ropes(stations) + [(stations - 1, 0)])

    @classmethod
    def star(cls, stations):
        check_size(stations)
        return cls(stations, [(0, station) for station in range(1, stations)])

    @property
    def is_tree(self):
        return len(self.ropes) == self.stations - 1

    @property
    def is_ring(self):
        return all([len(self.ropes_at(station)) == 2 for station in range(self.stations)])

    @property
    def is_row(self):
        return list(self.ropes) == row_ropes(self.stations)

    def ends(self, rope):
        check_rope(self, rope)
        return self.ropes[rope]

    def other_end(self, rope, station):
        check_rope(self, rope)
        check_station(self, station)
        start, end = self.ropes[rope]
        if station == start:
            return end
        if station == end:
            return start
        raise NotThere(rope, station)

    def ropes_at(self, station):
        check_station(self, station)
        return [rope for rope, ends in enumerate(self.ropes) if station in ends]

    def __eq__(self, other):
        return isinstance(other, Net) and self.stations == other.stations and self.ropes == other.ropes

    def __repr__(self):
        return f"Net({self.stations}, {list(self.ropes)})"


def check_size(stations):
    if not 1 <= stations <= Net.MOST_STATIONS:
        raise BadNet(-1)


def check_ropes(stations, ropes):
    if len(ropes) > Net.MOST_ROPES:
        raise TooMany(Net.MOST_ROPES)
    for rope, (start, end) in enumerate(ropes):
        if start == end or not 0 <= start < stations or not 0 <= end < stations:
            raise BadNet(rope)


def row_ropes(stations):
    return [(station, station + 1) for station in range(stations - 1)]
