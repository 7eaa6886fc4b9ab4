"""Standings in which each guest has a name, and named rides (points 52 and 53)."""

from twinrope.checks import check_colour, check_rope, check_station
from twinrope.errors import BadName, BrokenNames, NoName, NotHere, TooMany
from twinrope.rides import car_of, with_turned
from twinrope.standings import Standing, check_cars

LETTERS = "abcdefghijklmnopqrstuvwxyz"
LONGEST_NAME = 8
MOST_NAMED = 12


class Crowd:
    """Where the cars of a net and its guests are, each guest with a name."""

    def __init__(self, net, cars, reds, blues):
        check_cars(net, cars)
        check_named(net, list(reds) + list(blues))
        self.net = net
        self.cars = tuple(cars)
        self.reds = tuple(sorted([(name, station) for name, station in reds]))
        self.blues = tuple(sorted([(name, station) for name, station in blues]))

    def names(self, colour):
        check_colour(colour)
        return [name for name, station in named_guests(self, colour)]

    def place_of(self, name):
        check_name(self, name)
        return dict(self.reds + self.blues)[name]

    def colour_of(self, name):
        check_name(self, name)
        if name in dict(self.reds):
            return "red"
        return "blue"

    def standing(self):
        return Standing(self.net, crowded(self.net, self.reds), crowded(self.net, self.blues), self.cars)

    def __eq__(self, other):
        return (isinstance(other, Crowd) and self.net == other.net and self.cars == other.cars
                and self.reds == other.reds and self.blues == other.blues)

    def __len__(self):
        return len(self.reds + self.blues)

    def __contains__(self, name):
        return name in [other for other, station in self.reds + self.blues]


def check_named(net, guests):
    earlier = []
    for name, station in guests:
        if not is_name(name) or name in earlier:
            raise BadName(name)
        check_station(net, station)
        earlier.append(name)
    if len(guests) > MOST_NAMED:
        raise TooMany(MOST_NAMED)


def is_name(word):
    return 1 <= len(word) <= LONGEST_NAME and all([sign in LETTERS for sign in word])


def check_name(crowd, name):
    if name not in crowd:
        raise NoName(name)


def named_guests(crowd, colour):
    """The pairs (name, station) of the guests of a colour."""
    if colour == "red":
        return crowd.reds
    return crowd.blues


def crowded(net, guests):
    """How many of these guests are at each station."""
    many = [0] * net.stations
    for _, station in guests:
        many[station] += 1
    return many


def can_ride_named(crowd, rope, name):
    return car_of(crowd.standing(), rope, crowd.colour_of(name)) == crowd.place_of(name)


def ride_named(crowd, rope, name):
    check_rope(crowd.net, rope)
    check_name(crowd, name)
    if not can_ride_named(crowd, rope, name):
        raise NotHere(rope, name)
    return ridden_named(crowd, rope, name)


def ridden_named(crowd, rope, name):
    """The crowd after a named ride that is known to be possible."""
    end = crowd.net.other_end(rope, crowd.place_of(name))
    cars = with_turned(crowd.cars, rope)
    return Crowd(crowd.net, cars, moved_guests(crowd.reds, name, end), moved_guests(crowd.blues, name, end))


def moved_guests(guests, name, end):
    return [(other, end if other == name else station) for other, station in guests]


def walk_named(crowd, rides):
    for rope, name in rides:
        check_rope(crowd.net, rope)
        check_name(crowd, name)
    places = [crowd]
    for step, (rope, name) in enumerate(rides):
        if not can_ride_named(places[-1], rope, name):
            raise BrokenNames(step, rope, name)
        places.append(ridden_named(places[-1], rope, name))
    return places
