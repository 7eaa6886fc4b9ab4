"""Shortest ways over steps; a step is a tuple (start, end, rope)."""


def rope_steps(ropes):
    """The steps over the ropes in both directions."""
    steps = []
    for rope, (start, end) in enumerate(ropes):
        steps.append((start, end, rope))
        steps.append((end, start, rope))
    return steps


def turned(steps):
    """The same steps, each in the other direction."""
    return [(end, start, rope) for start, end, rope in steps]


def distances(goals, steps):
    """How many steps it takes to the nearest goal, for each station that has a way to one."""
    far = {}
    level = sorted(set(goals))
    depth = 0
    while level:
        for station in level:
            far[station] = depth
        depth += 1
        level = sorted({start for start, end, rope in steps if end in level and start not in far})
    return far


def stations_reached(starts, steps):
    """The ascending list of the stations to which a way leads from one of the starts."""
    return sorted(distances(starts, turned(steps)))


def shortest_way(starts, goals, steps):
    """The pair (start, ropes) of a way from a start to a goal, or None if there is no way.

    It has as few steps as possible, then the least list of ropes, then the least start.
    """
    far = distances(goals, steps)
    near = [start for start in starts if start in far]
    if not near:
        return None
    left = min([far[start] for start in near])
    here = [start for start in near if far[start] == left]
    first = min(here)
    ropes = []
    while left > 0:
        left -= 1
        rope, start, end = least_step(here, left, far, steps)
        if not ropes:
            first = start
        ropes.append(rope)
        here = [end]
    return first, ropes


def least_step(here, left, far, steps):
    """The tuple (rope, start, end) with the least rope after which `left` steps are left."""
    return min([(rope, start, end) for start, end, rope in steps if start in here and far.get(end) == left])


def end_of_way(net, start, ropes):
    """The station to which these ropes lead, one after another."""
    place = start
    for rope in ropes:
        place = net.other_end(rope, place)
    return place
