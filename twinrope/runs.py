"""How often each rope runs in least rows, and what rows cost (points 27 and 28)."""

from twinrope.checks import (COLOURS, check_colour, check_fares, check_rope, check_rope_of, check_same_net,
                             check_tree)
from twinrope.least import crossings_of


def runs_between(first, second):
    return [abs(reds) + abs(blues) for reds, blues in crossings_of(first, second)]


def sure_ropes(first, second):
    return [rope for rope, runs in enumerate(runs_between(first, second)) if runs > 0]


def colours_of_runs(first, second, rope):
    check_tree(first.net)
    check_same_net(first, second)
    check_rope(first.net, rope)
    reds, blues = crossings_of(first, second)[rope]
    leaving = 0 if reds + blues > 0 else 1
    colours = COLOURS if first.cars[rope] == leaving else COLOURS[::-1]
    return [colours[run % 2] for run in range(abs(reds) + abs(blues))]


def trip_fare(red_fares, blue_fares, rides):
    ropes = len(red_fares)
    check_both_fares(ropes, red_fares, blue_fares)
    for rope, colour in rides:
        check_rope_of(ropes, rope)
        check_colour(colour)
    return sum([red_fares[rope] if colour == "red" else blue_fares[rope] for rope, colour in rides])


def least_fare(first, second, red_fares, blue_fares):
    check_tree(first.net)
    check_same_net(first, second)
    check_both_fares(len(first.net.ropes), red_fares, blue_fares)
    crossings = crossings_of(first, second)
    red_part = sum([abs(reds) * fare for (reds, blues), fare in zip(crossings, red_fares)])
    blue_part = sum([abs(blues) * fare for (reds, blues), fare in zip(crossings, blue_fares)])
    return red_part + blue_part


def check_both_fares(ropes, red_fares, blue_fares):
    check_fares(ropes, red_fares, 0)
    check_fares(ropes, blue_fares, 0)
