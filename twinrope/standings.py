"""Standings of guests and cars, and how many there are (points 9 and 10)."""

from math import comb

from twinrope.checks import check_rope, check_station
from twinrope.errors import BadCount, BadStanding, TooMany

MOST_LISTED = 20000


class Standing:
    """Where the guests and the cars of a net are."""

    MOST_GUESTS = 30

    def __init__(self, net, reds, blues, cars):
        check_guests(net, "reds", reds)
        check_guests(net, "blues", blues)
        if sum(reds) + sum(blues) > Standing.MOST_GUESTS:
            raise TooMany(Standing.MOST_GUESTS)
        check_cars(net, cars)
        self.net = net
        self.reds = tuple(reds)
        self.blues = tuple(blues)
        self.cars = tuple(cars)

    @classmethod
    def gathered(cls, net, reds, blues):
        check_totals(reds, blues)
        empty = [0] * (net.stations - 1)
        return cls(net, [reds] + empty, [blues] + empty, [0] * len(net.ropes))

    @property
    def red_total(self):
        return sum(self.reds)

    @property
    def blue_total(self):
        return sum(self.blues)

    def key(self):
        return self.reds + self.blues + self.cars

    def red_car(self, rope):
        check_rope(self.net, rope)
        return self.net.ropes[rope][self.cars[rope]]

    def blue_car(self, rope):
        check_rope(self.net, rope)
        return self.net.ropes[rope][1 - self.cars[rope]]

    def red_cars_at(self, station):
        check_station(self.net, station)
        return len([rope for rope in range(len(self.cars)) if self.red_car(rope) == station])

    def __eq__(self, other):
        return (isinstance(other, Standing) and self.net == other.net and self.reds == other.reds
                and self.blues == other.blues and self.cars == other.cars)

    def __invert__(self):
        return Standing(self.net, self.blues, self.reds, [1 - car for car in self.cars])


def standing_of_key(net, key):
    many = net.stations
    return Standing(net, key[:many], key[many:2 * many], key[2 * many:])


def check_guests(net, part, guests):
    if len(guests) != net.stations:
        raise BadStanding(part, -1)
    for station, many in enumerate(guests):
        if many < 0:
            raise BadStanding(part, station)


def check_cars(net, cars):
    if len(cars) != len(net.ropes):
        raise BadStanding("cars", -1)
    for rope, car in enumerate(cars):
        if car not in (0, 1):
            raise BadStanding("cars", rope)


def check_totals(reds, blues):
    for total in (reds, blues):
        if total < 0:
            raise BadCount(total)
    if reds + blues > Standing.MOST_GUESTS:
        raise TooMany(Standing.MOST_GUESTS)


def standing_count(net, reds, blues):
    check_totals(reds, blues)
    more = net.stations - 1
    return (1 << len(net.ropes)) * comb(reds + more, more) * comb(blues + more, more)


def every_standing(net, reds, blues):
    if standing_count(net, reds, blues) > MOST_LISTED:
        raise TooMany(MOST_LISTED)
    blue_lists = shares(blues, net.stations)
    car_lists = every_cars(len(net.ropes))
    for red_list in shares(reds, net.stations):
        for blue_list in blue_lists:
            for cars in car_lists:
                yield Standing(net, red_list, blue_list, cars)


def shares(total, places):
    """All lists of `places` counts with this total, in ascending order."""
    if places == 1:
        return [[total]]
    return [[first] + rest for first in range(total + 1) for rest in shares(total - first, places - 1)]


def every_cars(ropes):
    """All lists of cars for so many ropes, in ascending order."""
    found = [[]]
    for _ in range(ropes):
        found = [cars + [car] for cars in found for car in (0, 1)]
    return found
