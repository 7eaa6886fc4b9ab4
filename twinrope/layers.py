"""Layers of a kind, and least numbers of rides on any net (point 51)."""

from twinrope.checks import check_same_net
from twinrope.errors import TooMany
from twinrope.standings import standing_of_key

MOST_IN_LAYERS = 3000


def layers_of(standing):
    return [[standing_of_key(standing.net, key) for key in layer] for layer in key_layers(standing)]


def twin_number(first, second):
    check_same_net(first, second)
    goal = second.key()
    for depth, layer in enumerate(key_layers(first)):
        if goal in layer:
            return depth
    return None


def key_layers(standing):
    """The layers as lists of keys; a search over keys is much faster than one over standings."""
    layer = [standing.key()]
    seen = {layer[0]: True}
    layers = []
    while layer:
        layers.append(layer)
        after = {other: True for key in layer for other in keys_after(standing.net, key) if other not in seen}
        seen.update(after)
        if len(seen) > MOST_IN_LAYERS:
            raise TooMany(MOST_IN_LAYERS)
        layer = sorted(list(after))
    return layers


def keys_after(net, key):
    """The keys of the standings after each possible ride."""
    many = net.stations
    found = []
    for rope, ends in enumerate(net.ropes):
        at = 2 * many + rope
        red = ends[key[at]]
        blue = ends[1 - key[at]]
        if key[red] > 0:
            found.append(key_with(key, red, blue, at))
        if key[many + blue] > 0:
            found.append(key_with(key, many + blue, many + red, at))
    return found


def key_with(key, start, end, at):
    """The key after a guest has gone from one index to another, and the cars at the index `at` have moved."""
    items = list(key)
    items[start] -= 1
    items[end] += 1
    items[at] = 1 - items[at]
    return tuple(items)
