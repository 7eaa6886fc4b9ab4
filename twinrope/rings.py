"""Bills and least rows on a ring (points 41 to 43)."""

from twinrope.checks import COLOURS, check_ring
from twinrope.kinship import check_alike
from twinrope.rides import after_ride, car_of, rides_from, walk


def ring_order(net):
    check_ring(net)
    station = 0
    rope = net.ropes_at(0)[0]
    order = []
    for _ in net.ropes:
        order.append((station, rope))
        station = net.other_end(rope, station)
        rope = [other for other in net.ropes_at(station) if other != rope][0]
    return order


def ring_bill(first, second, turn):
    check_ring(first.net)
    check_alike(first, second)
    return bill_at(first, second, turn)


def bill_at(first, second, turn):
    """The bill of two standings that are known to be alike."""
    pairs = []
    reds = turn
    for place, (station, rope) in enumerate(ring_order(first.net)):
        if place > 0:
            reds += first.reds[station] - second.reds[station]
        pairs.append((reds, reds - red_cars(first, rope, station) + red_cars(second, rope, station)))
    return pairs


def red_cars(standing, rope, station):
    """1 if the red car of the rope is at the station, otherwise 0."""
    if standing.red_car(rope) == station:
        return 1
    return 0


def ring_cost(first, second, turn):
    return cost_of(ring_bill(first, second, turn))


def cost_of(pairs):
    return sum([abs(reds) + abs(blues) for reds, blues in pairs])


def turn_of(standing, rides):
    station, rope = ring_order(standing.net)[0]
    turn = 0
    for here, (other, colour) in zip(walk(standing, rides), rides):
        if other == rope and colour == "red":
            turn += 1 if here.red_car(rope) == station else -1
    return turn


def best_turns(first, second):
    check_ring(first.net)
    check_alike(first, second)
    return turns_for(first, second)


def turns_for(first, second):
    """The best turns of two standings that are known to be alike."""
    # The cost is how far the turn is from all these points; that is least from one middle point to the other.
    points = sorted([-crossing for pair in bill_at(first, second, 0) for crossing in pair])
    middle = len(points) // 2
    return list(range(points[middle - 1], points[middle] + 1))


def ring_number(first, second):
    return ring_cost(first, second, best_turns(first, second)[0])


def ring_useful(standing, goal):
    check_ring(standing.net)
    check_alike(standing, goal)
    return useful_on_ring(standing, goal)


def useful_on_ring(standing, goal):
    turns = turns_for(standing, goal)
    # A best turn with a ride to be done clockwise exists exactly if the greatest one has it; so for the other way.
    least = bill_at(standing, goal, turns[0])
    greatest = bill_at(standing, goal, turns[-1])
    wanted = []
    for place, (station, rope) in enumerate(ring_order(standing.net)):
        for at, colour in enumerate(COLOURS):
            clockwise = car_of(standing, rope, colour) == station
            if (clockwise and greatest[place][at] > 0) or (not clockwise and least[place][at] < 0):
                wanted.append((rope, colour))
    return [ride for ride in rides_from(standing) if ride in wanted]


def ring_row(first, second):
    check_ring(first.net)
    check_alike(first, second)
    row = []
    here = first
    while here != second:
        rope, colour = useful_on_ring(here, second)[0]
        row.append((rope, colour))
        here = after_ride(here, rope, colour)
    return row
