"""Crowds searched through. A camp is a tuple (cars, reds, blues) with pairs (name, station), as in a crowd."""

from itertools import product

from twinrope.crowds import Crowd


def camp_of(crowd):
    return crowd.cars, crowd.reds, crowd.blues


def crowd_of(net, camp):
    return Crowd(net, list(camp[0]), list(camp[1]), list(camp[2]))


def named_moves(net, camp):
    """All pairs (named ride, camp after it)."""
    found = []
    for rope, ends in enumerate(net.ropes):
        for colour in (0, 1):
            car = camp[0][rope] if colour == 0 else 1 - camp[0][rope]
            for name, station in camp[1 + colour]:
                if station == ends[car]:
                    cars = list(camp[0])
                    cars[rope] = 1 - cars[rope]
                    after = [tuple(cars), camp[1], camp[2]]
                    after[1 + colour] = tuple((other, ends[1 - car] if other == name else place)
                                              for other, place in camp[1 + colour])
                    found.append(((rope, name), tuple(after)))
    return found


def named_walked(net, camp, rides):
    """The last camp, or None if a ride is not possible."""
    for ride in rides:
        camp = dict(named_moves(net, camp)).get(ride)
        if camp is None:
            return None
    return camp


def named_kind(net, camp):
    """All camps that named rides lead to."""
    found = {camp}
    edge = [camp]
    while edge:
        for _, there in named_moves(net, edge.pop()):
            if there not in found:
                found.add(there)
                edge.append(there)
    return found


def camps_with(net, reds, blues):
    """All camps with these names."""
    found = []
    for cars in product((0, 1), repeat=len(net.ropes)):
        for places in product(range(net.stations), repeat=len(reds) + len(blues)):
            found.append((cars, tuple(zip(reds, places)), tuple(zip(blues, places[len(reds):]))))
    return found


def named_kinds(net, reds, blues):
    """All named kinds, each a set of camps."""
    kinds = []
    seen = set()
    for camp in camps_with(net, reds, blues):
        if camp not in seen:
            kinds.append(named_kind(net, camp))
            seen |= kinds[-1]
    return kinds


def place_without_names(net, camp):
    """The place, as in the other searches, without the names."""
    many = [[0] * net.stations, [0] * net.stations]
    for colour in (0, 1):
        for _, station in camp[1 + colour]:
            many[colour][station] += 1
    return tuple(many[0]), tuple(many[1]), camp[0]


def some_camp(net, reds, blues, rng):
    guests = [tuple((name, rng.randrange(net.stations)) for name in sorted(names)) for names in (reds, blues)]
    return tuple(rng.randrange(2) for _ in net.ropes), guests[0], guests[1]


def some_named_row(net, camp, length, rng):
    """A row of at most so many named rides, and the camp after it."""
    row = []
    for _ in range(length):
        found = named_moves(net, camp)
        if found:
            ride, camp = rng.choice(found)
            row.append(ride)
    return row, camp


def swapped(camp, one, other):
    """The camp in which two guests of one colour have changed places."""
    place = dict(camp[1] + camp[2])
    taken = {**place, one: place[other], other: place[one]}
    return camp[0], *(tuple((name, taken[name]) for name, _ in guests) for guests in camp[1:])
