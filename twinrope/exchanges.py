"""Rows of named rides in which guests change places (points 55 and 56)."""

from twinrope.arrows import arrow_steps, can_meet, meeting_way
from twinrope.checks import COLOURS
from twinrope.companions import companions, named_difference, part_of
from twinrope.crowds import check_name, named_guests, ridden_named, walk_named
from twinrope.errors import NamesApart, NoExchange
from twinrope.marks import marks_of
from twinrope.plans import plan_of
from twinrope.rides import car_of
from twinrope.visits import meeting_place, pair_rides
from twinrope.ways import end_of_way, rope_steps, shortest_way, stations_reached, turned


def exchange_row(crowd, one, other):
    check_name(crowd, one)
    check_name(crowd, other)
    if one != other and other not in companions(crowd, one):
        raise NoExchange(one, other)
    row = joining_row(crowd, one, other)
    # At one station it makes no difference which of the two is which, so each may go back in the other's place.
    taken = {one: other, other: one}
    return row + [(rope, taken.get(name, name)) for rope, name in row[::-1]]


def joining_row(crowd, one, other):
    """A row after which the two guests, who can change places, are at the same station."""
    if crowd.place_of(one) == crowd.place_of(other):
        return []
    if can_meet(crowd.standing()):
        return escorted_row(crowd, one, other)
    return relayed_row(crowd, one, other)


def escorted_row(crowd, one, other):
    """A red and a blue guest meet; then one of the two rides to the other one beside a guest of the other colour."""
    standing = crowd.standing()
    start, ropes = meeting_way(standing)
    place = meeting_place(standing)
    pair = {"red": guest_at(crowd, "red", start), "blue": guest_at(crowd, "blue", place)}
    row = [(rope, pair["red"]) for rope in ropes]
    here = walk_named(crowd, row)[-1]
    colour = crowd.colour_of(one)
    if pair[colour] not in (one, other):
        row = row + escort_rides(here, place, crowd.place_of(one), pair)
        place = crowd.place_of(one)
        pair[colour] = one
    goal = crowd.place_of(other if pair[colour] == one else one)
    return row + escort_rides(here, place, goal, pair)


def escort_rides(crowd, start, end, pair):
    """The named rides in which a pair rides from the start to the end; it leaves the cars as they are."""
    ropes = shortest_way([start], [end], rope_steps(crowd.net.ropes))[1]
    return [(rope, pair[colour]) for rope, colour in pair_rides(crowd.standing(), start, ropes)]


def guest_at(crowd, colour, place):
    """The first guest of the colour at the station."""
    return [name for name, station in named_guests(crowd, colour) if station == place][0]


def relayed_row(crowd, one, other):
    """Where no red and blue guest can meet, the first guest meets others of the same colour, up to the other one.

    After each meeting the first guest goes on to where the guest that was met had been. As few are met as possible,
    so none of these rides changes the reach of a guest that is still to be met.
    """
    row = []
    here = crowd
    for name in relay_of(crowd, one, other):
        out, near = ways_to_join(here, one, name)
        part = [(rope, name) for rope in out] + [(rope, one) for rope in near]
        if name != other:
            part = part + [(rope, one) for rope in out[::-1]]
        row = row + part
        here = walk_named(here, part)[-1]
    return row


def relay_of(crowd, one, other):
    """The names of as few guests as possible up to the other one, each with a reach that meets that of the last."""
    steps = steps_for(crowd, one)
    guests = named_guests(crowd, crowd.colour_of(one))
    reaches = [(name, stations_reached([station], steps)) for name, station in guests]
    links = [(name, near, near) for name, reach in reaches for near, part in reaches
             if any([station in part for station in reach])]
    return shortest_way([one], [other], links)[1]


def steps_for(crowd, name):
    """The steps that a guest can ride alone."""
    steps = arrow_steps(crowd.standing())
    if crowd.colour_of(name) == "red":
        return steps
    return turned(steps)


def ways_to_join(crowd, one, name):
    """The ropes over which the second guest comes into the reach of the first, and those of the first to there."""
    steps = steps_for(crowd, one)
    reach = stations_reached([crowd.place_of(one)], steps)
    out = shortest_way([crowd.place_of(name)], reach, steps)[1]
    place = end_of_way(crowd.net, crowd.place_of(name), out)
    return out, shortest_way([crowd.place_of(one)], [place], steps)[1]


def border_of(crowd, name):
    check_name(crowd, name)
    marks = marks_of(crowd.standing())
    return marks, part_of(crowd, name)


def named_plan(first, second):
    why = named_difference(first, second)
    if why is not None:
        raise NamesApart(why)
    row = plan_with_names(first, plan_of(first.standing(), second.standing()))
    here = walk_named(first, row)[-1]
    for colour in COLOURS:
        for name, goal in named_guests(second, colour):
            if here.place_of(name) != goal:
                part = exchange_row(here, name, misplaced_at(here, second, colour, goal))
                row = row + part
                here = walk_named(here, part)[-1]
    return row


def plan_with_names(crowd, rides):
    """The rides, each by the first guest who is there."""
    row = []
    here = crowd
    for rope, colour in rides:
        name = guest_at(here, colour, car_of(here.standing(), rope, colour))
        row.append((rope, name))
        here = ridden_named(here, rope, name)
    return row


def misplaced_at(crowd, goal, colour, place):
    """The first guest of the colour at the station who has to be elsewhere in the goal."""
    return [name for name, station in named_guests(crowd, colour)
            if station == place and goal.place_of(name) != place][0]
