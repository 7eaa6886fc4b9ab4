"""Rides on keys of standings, for searches over many standings."""

from twinrope.checks import COLOURS


def rides_on_key(net, key, rope):
    """The pairs (colour, key after it) of the possible rides over the rope."""
    many = net.stations
    car = key[2 * many + rope]
    found = []
    for at, colour in enumerate(COLOURS):
        # The red car is at the end that the item of the cars names, the blue car at the other one.
        start = net.ropes[rope][car if at == 0 else 1 - car]
        end = net.ropes[rope][1 - car if at == 0 else car]
        if key[at * many + start] > 0:
            found.append((colour, key_with(key, at * many + start, at * many + end, 2 * many + rope)))
    return found


def key_with(key, start, end, at):
    """The key after a guest has gone from one index to another, and the cars at the index `at` have moved."""
    items = list(key)
    items[start] -= 1
    items[end] += 1
    items[at] = 1 - items[at]
    return tuple(items)
