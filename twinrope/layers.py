"""Layers of a kind, and least numbers of rides on any net (point 51)."""

from twinrope.checks import check_same_net
from twinrope.errors import TooMany
from twinrope.keyed import rides_on_key
from twinrope.standings import standing_of_key

MOST_IN_LAYERS = 3000


def layers_of(standing):
    return [[standing_of_key(standing.net, key) for key in layer] for layer in key_layers(standing)]


def twin_number(first, second):
    check_same_net(first, second)
    goal = second.key()
    for depth, layer in enumerate(key_layers(first)):
        if goal in layer:
            return depth
    return None


def key_layers(standing):
    """The layers as lists of keys; a search over keys is much faster than one over standings."""
    layer = [standing.key()]
    seen = {layer[0]: True}
    layers = []
    while layer:
        layers.append(layer)
        after = {other: True for key in layer for other in keys_after(standing.net, key) if other not in seen}
        seen.update(after)
        if len(seen) > MOST_IN_LAYERS:
            raise TooMany(MOST_IN_LAYERS)
        layer = sorted(list(after))
    return layers


def keys_after(net, key):
    """The keys of the standings after each possible ride."""
    return [after for rope in range(len(net.ropes)) for colour, after in rides_on_key(net, key, rope)]
