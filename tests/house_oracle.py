"""The steps of the houses, searched through. A place is a tuple (reds, blues, cars), as in the other searches."""

from oracle import moves, places_with


def coloured_moves(net, place):
    return moves(net, place)


def blind_moves(net, place):
    """All pairs (step, place after it) of the blind house; only the reds of the place are looked at."""
    found = []
    for rope, ends in enumerate(net.ropes):
        for at, word in enumerate(("first", "second")):
            if place[0][ends[at]] > 0:
                guests = list(place[0])
                guests[ends[at]] -= 1
                guests[ends[1 - at]] += 1
                cars = list(place[2])
                cars[rope] = 1 - cars[rope]
                found.append(((rope, word), (tuple(guests), place[1], tuple(cars))))
    return found


def together_moves(net, place):
    """All pairs (step, place after it) of the house Together, in order."""
    found = []
    rides = dict(moves(net, place))
    for rope, ends in enumerate(net.ropes):
        for colour in ("red", "blue"):
            if (rope, colour) in rides:
                found.append(((rope, colour), rides[rope, colour]))
        red, blue = ends[place[2][rope]], ends[1 - place[2][rope]]
        if place[0][red] > 0 and place[1][blue] > 0:
            reds, blues, cars = (list(part) for part in place)
            reds[red] -= 1
            reds[blue] += 1
            blues[blue] -= 1
            blues[red] += 1
            cars[rope] = 1 - cars[rope]
            found.append(((rope, "both"), (tuple(reds), tuple(blues), tuple(cars))))
    return found


def distances_by(after, net, place):
    """The least number of steps from the place to each place of its kind."""
    far = {place: 0}
    edge = [place]
    while edge:
        level = []
        for here in edge:
            for _, there in after(net, here):
                if there not in far:
                    far[there] = far[here] + 1
                    level.append(there)
        edge = level
    return far


def kinds_by(after, net, reds, blues):
    """All kinds of a house, each a list of places in ascending order, in the order of their first places."""
    kinds = []
    seen = set()
    for place in places_with(net, reds, blues):
        if place not in seen:
            kind = sorted(distances_by(after, net, place))
            seen.update(kind)
            kinds.append(kind)
    return kinds


def walked_by(after, net, place, steps):
    """The last place of the walk, or None if a step is not possible."""
    for step in steps:
        place = dict(after(net, place)).get(step)
        if place is None:
            return None
    return place


def some_steps(after, net, place, length, rng):
    """A row of at most so many steps, and the place after it."""
    row = []
    for _ in range(length):
        found = after(net, place)
        if found:
            step, place = rng.choice(found)
            row.append(step)
    return row, place
