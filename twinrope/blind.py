"""The blind house, in which every guest may ride every car (points 58 and 59)."""

from twinrope.arrows import stations_with
from twinrope.bills import less, more
from twinrope.checks import check_same_net, check_tree
from twinrope.errors import BlindApart, HasBlues, NotPossible
from twinrope.houses import House, check_step
from twinrope.least import crossings_with, second_sides
from twinrope.rides import with_moved, with_turned
from twinrope.standings import Standing, check_totals
from twinrope.ways import end_of_way, rope_steps, shortest_way

ENDS = ("first", "second")


class Blind(House):
    """All guests count as red ones; a step takes a guest from one end of a rope to the other."""

    WORD = "blind"

    def words(self):
        return ENDS

    def steps(self, standing):
        check_no_blues(standing)
        ropes = range(len(standing.net.ropes))
        return [(rope, word) for rope in ropes for word in ENDS if can_step(standing, rope, word)]

    def step_to(self, standing, rope, word):
        check_step(standing.net, rope, word, ENDS)
        check_no_blues(standing)
        if not can_step(standing, rope, word):
            raise NotPossible(0, rope, word)
        return stepped(standing, rope, word)

    def walk_steps(self, standing, steps):
        for rope, word in steps:
            check_step(standing.net, rope, word, ENDS)
        # Without a step nothing else would look at the guests.
        check_no_blues(standing)
        return super().walk_steps(standing, steps)

    def same_kind(self, first, second):
        return blind_difference(first, second) is None

    def kind_total(self, net, reds, blues):
        check_tree(net)
        check_no_blue_total(reds, blues)
        return 1 << len(net.ropes)

    def groups(self, net, reds, blues):
        check_no_blue_total(reds, blues)
        return super().groups(net, reds, blues)


def check_no_blues(standing):
    for station, many in enumerate(standing.blues):
        if many > 0:
            raise HasBlues(station)


def check_no_blue_total(reds, blues):
    check_totals(reds, blues)
    if blues != 0:
        raise HasBlues(-1)


def start_of(net, rope, word):
    return net.ropes[rope][ENDS.index(word)]


def can_step(standing, rope, word):
    return standing.reds[start_of(standing.net, rope, word)] > 0


def stepped(standing, rope, word):
    """The standing after a step that is known to be possible."""
    start = start_of(standing.net, rope, word)
    guests = with_moved(standing.reds, start, standing.net.other_end(rope, start))
    return Standing(standing.net, guests, standing.blues, with_turned(standing.cars, rope))


def blind_of(standing):
    return Standing(standing.net, more(standing.reds, standing.blues), [0] * standing.net.stations, standing.cars)


def blind_difference(first, second):
    check_same_net(first, second)
    check_no_blues(first)
    check_no_blues(second)
    if first.red_total != second.red_total:
        return "guests", first.red_total, second.red_total
    for station in range(first.net.stations):
        if is_odd(first, station) != is_odd(second, station):
            return "station", station
    if first.red_total > 0:
        return None
    for rope, car in enumerate(first.cars):
        if car != second.cars[rope]:
            return "rope", rope
    return None


def is_odd(standing, station):
    """Whether the guests plus the red cars at the station are odd; no step changes this."""
    return (standing.reds[station] + standing.red_cars_at(station)) & 1 == 1


def check_blind(first, second):
    why = blind_difference(first, second)
    if why is not None:
        raise BlindApart(why)


def blind_number(first, second):
    check_tree(first.net)
    check_blind(first, second)
    return sum([abs(guests) for guests in guests_to_cross(first, second)])


def guests_to_cross(first, second):
    """For each rope of a tree, how many guests have to go from its first end to its second end."""
    return [guests for guests, _ in crossings_with(second_sides(first.net), first, second)]


def blind_row(first, second):
    check_tree(first.net)
    check_blind(first, second)
    left = guests_to_cross(first, second)
    row = []
    here = first
    while any([guests != 0 for guests in left]):
        rope, word = first_useful(here, left)
        row.append((rope, word))
        here = stepped(here, rope, word)
        left[rope] += 1 if word == "second" else -1
    return row


def first_useful(standing, left):
    """The possible step with the least rope that takes one away from what is left to cross."""
    wanted = [(rope, "first" if guests > 0 else "second") for rope, guests in enumerate(left) if guests != 0]
    return [(rope, word) for rope, word in wanted if can_step(standing, rope, word)][0]


def blind_plan(first, second):
    check_blind(first, second)
    row = placing_row(first, second)
    # When the guests are placed, an even number of ropes is still to be turned at each station.
    left = ropes_to_turn(first, second, row)
    while left:
        trail = closed_trail(first.net, left)
        row = row + trail_steps(second, trail)
        left = [rope for rope in left if rope not in trail]
    return row


def placing_row(first, second):
    """Steps that bring one guest after another to the nearest station where a guest is missing."""
    net = first.net
    row = []
    left = less(first.reds, second.reds)
    for start in range(net.stations):
        while left[start] > 0:
            goals = [station for station, many in enumerate(left) if many < 0]
            ropes = shortest_way([start], goals, rope_steps(net.ropes))[1]
            row.extend(steps_on_way(net, start, ropes))
            left[start] -= 1
            left[end_of_way(net, start, ropes)] += 1
    return row


def steps_on_way(net, place, ropes):
    """The steps of one guest over these ropes."""
    steps = []
    for rope in ropes:
        steps.append((rope, ENDS[net.ropes[rope].index(place)]))
        place = net.other_end(rope, place)
    return steps


def ropes_to_turn(first, second, row):
    """The ropes whose cars stand otherwise after the row than in the second standing."""
    cars = list(first.cars)
    for rope, _ in row:
        cars[rope] = 1 - cars[rope]
    return [rope for rope, car in enumerate(cars) if car != second.cars[rope]]


def closed_trail(net, ropes):
    """Some of the ropes, in an order that leads from the first end of the first of them back to it."""
    left = list(ropes)
    place = net.ropes[left[0]][0]
    trail = []
    while place in [station for rope in left for station in net.ropes[rope]]:
        rope = [other for other in left if place in net.ropes[other]][0]
        trail.append(rope)
        left.remove(rope)
        place = net.other_end(rope, place)
    return trail


def trail_steps(standing, trail):
    """The steps in which the nearest guest comes to the trail, goes round and returns the same way."""
    net = standing.net
    begin = net.ropes[trail[0]][0]
    start, ropes = shortest_way(stations_with(standing.reds), [begin], rope_steps(net.ropes))
    out = steps_on_way(net, start, ropes)
    return out + steps_on_way(net, begin, trail) + steps_on_way(net, begin, ropes[::-1])
