"""Crossings and least rows on a tree (points 25 and 26)."""

from twinrope.checks import check_tree
from twinrope.kinship import check_alike
from twinrope.rides import after_ride, rides_from
from twinrope.trees import beyond


def crossings_of(first, second):
    check_tree(first.net)
    check_alike(first, second)
    return crossings_with(second_sides(first.net), first, second)


def second_sides(net):
    """The stations on the side of its second end, for each rope."""
    return [beyond(net, start, rope) for rope, (start, end) in enumerate(net.ropes)]


def crossings_with(sides, first, second):
    return [(gain(first.reds, second.reds, side), gain(first.blues, second.blues, side)) for side in sides]


def gain(before, after, side):
    """How many more guests are on the side after than before."""
    return sum([after[station] - before[station] for station in side])


def least_number(first, second):
    return sum([abs(reds) + abs(blues) for reds, blues in crossings_of(first, second)])


def useful_rides(standing, goal):
    return useful_with(standing, crossings_of(standing, goal))


def useful_with(standing, crossings):
    return [(rope, colour) for rope, colour in rides_from(standing)
            if is_useful(standing.cars[rope], crossings[rope], colour)]


def is_useful(car, crossing, colour):
    """Whether a ride from where the car of the colour is takes one away from what has to cross."""
    reds, blues = crossing
    if colour == "red":
        return reds > 0 if car == 0 else reds < 0
    return blues > 0 if car == 1 else blues < 0


def least_row(first, second):
    crossings = crossings_of(first, second)
    sides = second_sides(first.net)
    row = []
    here = first
    while here != second:
        rope, colour = useful_with(here, crossings)[0]
        row.append((rope, colour))
        here = after_ride(here, rope, colour)
        crossings = crossings_with(sides, here, second)
    return row
