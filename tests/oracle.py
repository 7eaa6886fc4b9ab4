"""Answers found by searching, to compare the answers of the package with.

A place is a tuple (reds, blues, cars), as the attributes of a standing are. Nothing here calls
a function of the package; only the classes Net and Standing are used, as records.
"""

from itertools import product

from twinrope.nets import Net
from twinrope.standings import Standing

COLOURS = ("red", "blue")

TREES = [
    Net(1, []),
    Net(2, [(0, 1)]),
    Net(2, [(1, 0)]),
    Net(3, [(0, 1), (1, 2)]),
    Net(3, [(2, 0), (1, 2)]),
    Net(4, [(0, 1), (0, 2), (0, 3)]),
    Net(4, [(3, 1), (2, 0), (1, 2)]),
]
RINGS = [
    Net(2, [(0, 1), (0, 1)]),
    Net(2, [(0, 1), (1, 0)]),
    Net(3, [(0, 1), (1, 2), (2, 0)]),
    Net(3, [(2, 1), (0, 1), (0, 2)]),
    Net(4, [(0, 2), (1, 2), (3, 1), (3, 0)]),
]
OTHERS = [
    Net(2, [(0, 1), (1, 0), (0, 1)]),
    Net(3, [(0, 1), (0, 1), (1, 2)]),
    Net(3, [(1, 0), (2, 1), (0, 1), (1, 2)]),
    Net(4, [(0, 1), (1, 2), (2, 3), (3, 1)]),
    Net(4, [(0, 1), (1, 2), (2, 3), (3, 0), (0, 2)]),
]
# Circles that hang on a row, so that there may be no guest on them.
CIRCLES = [
    Net(4, [(0, 1), (1, 2), (2, 3), (3, 2)]),
    Net(5, [(0, 1), (1, 2), (2, 3), (3, 4), (4, 2)]),
    Net(4, [(0, 1), (1, 0), (1, 2), (3, 2), (2, 3)]),
]
SMALL_NETS = TREES + RINGS + OTHERS
TOTALS = [(0, 0), (1, 0), (0, 1), (1, 1), (2, 0), (2, 1), (1, 2)]


def place_of(standing):
    return standing.reds, standing.blues, standing.cars


def standing_of(net, place):
    return Standing(net, list(place[0]), list(place[1]), list(place[2]))


def moves(net, place):
    """All pairs (ride, place after it), in the order of the rides."""
    found = []
    for rope, ends in enumerate(net.ropes):
        for colour in (0, 1):
            car = place[2][rope] if colour == 0 else 1 - place[2][rope]
            start, end = ends[car], ends[1 - car]
            if place[colour][start] == 0:
                continue
            guests = list(place[colour])
            guests[start] -= 1
            guests[end] += 1
            cars = list(place[2])
            cars[rope] = 1 - cars[rope]
            after = [place[0], place[1], tuple(cars)]
            after[colour] = tuple(guests)
            found.append(((rope, COLOURS[colour]), tuple(after)))
    return found


def places_with(net, reds, blues):
    """All places with these totals, in ascending order."""
    def lists(total):
        every = product(range(total + 1), repeat=net.stations)
        return [guests for guests in every if sum(guests) == total]
    cars = list(product((0, 1), repeat=len(net.ropes)))
    return [(r, b, c) for r in lists(reds) for b in lists(blues) for c in cars]


def steps_from(net, place):
    """The least number of rides from the place to each place of its kind."""
    far = {place: 0}
    edge = [place]
    while edge:
        after = []
        for here in edge:
            for _, there in moves(net, here):
                if there not in far:
                    far[there] = far[here] + 1
                    after.append(there)
        edge = after
    return far


def kinds_of(net, reds, blues):
    """All kinds, each a list of places in ascending order."""
    kinds = []
    seen = set()
    for place in places_with(net, reds, blues):
        if place not in seen:
            kind = sorted(steps_from(net, place))
            seen.update(kind)
            kinds.append(kind)
    return kinds


def small_kinds(nets=SMALL_NETS, totals=TOTALS, most=1300):
    """All kinds of small nets, as pairs (net, kind)."""
    for net in nets:
        for reds, blues in totals:
            if len(places_with(net, reds, blues)) <= most:
                for kind in kinds_of(net, reds, blues):
                    yield net, kind


def guests_somewhere(kind):
    """The stations that have a guest in some place of the kind."""
    found = set()
    for reds, blues, _ in kind:
        found.update(s for s in range(len(reds)) if reds[s] + blues[s] > 0)
    return sorted(found)


def ropes_that_run(net, kind):
    found = set()
    for place in kind:
        found.update(ride[0] for ride, _ in moves(net, place))
    return sorted(found)


def meets(kind):
    """Whether a red and a blue guest are at one station in some place of the kind."""
    return any(r > 0 and b > 0 for place in kind for r, b in zip(place[0], place[1]))


def joined(stations, pairs):
    """The parts that pairs of stations join, in the order of their first stations."""
    part_of = {station: station for station in stations}
    for start, end in pairs:
        old, new = part_of[start], part_of[end]
        for station in stations:
            if part_of[station] == old:
                part_of[station] = new
    parts = []
    for station in stations:
        part = [other for other in stations if part_of[other] == part_of[station]]
        if part not in parts:
            parts.append(part)
    return parts


def great_net():
    """24 stations and 40 ropes, some of them side by side and turned."""
    ropes = [(k, k + 1) if k % 3 else (k + 1, k) for k in range(23)]
    ropes += [(k, (k * 7 + 5) % 24) for k in range(17)]
    return Net(24, ropes)


def great_tree(turn=3):
    """24 stations that branch, with every third or so of the ropes turned."""
    ropes = []
    for station in range(1, 24):
        nearer = station - 1 if station % 4 == 0 else station // 2
        ropes.append((nearer, station) if station % turn else (station, nearer))
    return Net(24, ropes)


def some_place(net, reds, blues, rng):
    """A place with these totals that the random source gives."""
    guests = []
    for total in (reds, blues):
        many = [0] * net.stations
        for _ in range(total):
            many[rng.randrange(net.stations)] += 1
        guests.append(tuple(many))
    return guests[0], guests[1], tuple(rng.randrange(2) for _ in net.ropes)


def some_row(net, place, length, rng):
    """A row of at most so many rides from the place, and all places on the way."""
    rides, places = [], [place]
    for _ in range(length):
        found = moves(net, places[-1])
        if found:
            ride, after = rng.choice(found)
            rides.append(ride)
            places.append(after)
    return rides, places


def all_rides(net):
    return [(rope, colour) for rope in range(len(net.ropes)) for colour in COLOURS]


def arrows_at(net, place):
    """The pairs (station of the red car, station of the blue car), one for each rope."""
    return [(ends[car], ends[1 - car]) for ends, car in zip(net.ropes, place[2])]


def closure(starts, pairs):
    """The ascending list of what the pairs lead to from the starts."""
    found = set(starts)
    while True:
        more = {end for start, end in pairs if start in found} - found
        if not more:
            return sorted(found)
        found |= more


def where(guests):
    return [station for station, many in enumerate(guests) if many]


def shortest_meeting(net, place):
    """The pair (start, ropes) of point 19, or None, found by the least way to each station."""
    arrows = arrows_at(net, place)
    ways = {station: ([], station) for station in where(place[0])}
    for _ in range(net.stations):
        met = [(ropes, start) for station, (ropes, start) in ways.items() if place[1][station]]
        if met:
            ropes, start = min(met)
            return start, ropes
        longer = {}
        for rope, (start, end) in enumerate(arrows):
            if start in ways:
                way = (ways[start][0] + [rope], ways[start][1])
                longer[end] = min(way, longer.get(end, way))
        ways = longer
    return None


def book_of(net, place, station):
    cars = sum(1 for start, _ in arrows_at(net, place) if start == station)
    return place[0][station] - place[1][station] - cars


def side_of(net, start, rope):
    """The stations on the side of `start` if the rope is taken away."""
    pairs = [pair for other, pair in enumerate(net.ropes) if other != rope]
    return closure([start], pairs + [(end, begin) for begin, end in pairs])


def ropes_from(net, home):
    """How many ropes each station is away from home."""
    far = {home: 0}
    while len(far) < net.stations:
        for start, end in net.ropes + tuple((end, start) for start, end in net.ropes):
            if start in far and far.get(end, net.stations) > far[start] + 1:
                far[end] = far[start] + 1
    return [far[station] for station in range(net.stations)]


def moves_home(net, place, far):
    """The moves whose guest is nearer home after them."""
    found = []
    for ride, after in moves(net, place):
        guests = 0 if ride[1] == "red" else 1
        start, end = sorted(net.ropes[ride[0]], key=lambda station: after[guests][station] - place[guests][station])
        if far[end] < far[start]:
            found.append((ride, after))
    return found


def homeward_end(net, place, home):
    """The only place without moves home that they lead to, and how many there are, whatever the order."""
    far = ropes_from(net, home)
    level, depth = {place}, 0
    while True:
        after = [moves_home(net, here, far) for here in sorted(level)]
        if not all(after):
            assert not any(after) and len(level) == 1
            return level.pop(), depth
        level = {there for found in after for _, there in found}
        depth += 1


def some_homeward_end(net, place, home, rng):
    """The same, by one order that the random source gives."""
    far = ropes_from(net, home)
    depth = 0
    found = moves_home(net, place, far)
    while found:
        place = rng.choice(found)[1]
        depth += 1
        found = moves_home(net, place, far)
    return place, depth


def some_tree(stations, rng):
    """A tree whose ropes are turned and ordered as the random source gives."""
    names = list(range(stations))
    rng.shuffle(names)
    ropes = [(names[rng.randrange(k)], names[k]) for k in range(1, stations)]
    ropes = [pair[::-1] if rng.randrange(2) else pair for pair in ropes]
    rng.shuffle(ropes)
    return Net(stations, ropes)


def row_counts(net, place, rides):
    """The crossings of each rope from its first end, less the other way, of red and of blue guests; and the end."""
    reds, blues = [0] * len(net.ropes), [0] * len(net.ropes)
    for rope, colour in rides:
        after = dict(moves(net, place))[rope, colour]
        guests = 0 if colour == "red" else 1
        (reds, blues)[guests][rope] += place[guests][net.ropes[rope][0]] - after[guests][net.ropes[rope][0]]
        place = after
    return reds, blues, place


def walked(net, place, rides):
    """The last place of the walk, or None if a ride is not possible."""
    for ride in rides:
        place = dict(moves(net, place)).get(ride)
        if place is None:
            return None
    return place


def number_rows(ropes, reds, blues):
    """All rows of numbers that need at most these totals, in ascending order."""
    every = product(range(-1 - blues, reds + 1), repeat=ropes)
    return [row for row in every
            if sum(J for J in row if J >= 0) <= reds and sum(-1 - J for J in row if J < 0) <= blues]
