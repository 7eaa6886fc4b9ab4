"""Rides of which only the ropes were heard (point 63)."""

from twinrope.checks import COLOURS, check_rope, check_same_net, check_station
from twinrope.errors import NoFit, TooMany
from twinrope.keyed import rides_on_key
from twinrope.standings import standing_of_key

MOST_HEARD = 12


def heard_count(standing, ropes):
    check_heard(standing.net, ropes)
    return sum([many for many, _ in ends_or_none(standing, ropes).values()])


def heard_first(standing, ropes):
    check_heard(standing.net, ropes)
    fit = min([least for _, least in ends_heard(standing, ropes).values()])
    return [COLOURS[at] for at in fit]


def heard_ends(standing, ropes):
    check_heard(standing.net, ropes)
    return [standing_of_key(standing.net, key) for key in sorted(list(ends_heard(standing, ropes)))]


def heard_balance(standing, ropes):
    there = heard_ends(standing, ropes)[0]
    return [reds - blues for reds, blues in zip(there.reds, there.blues)]


def heard_reds(standing, ropes, station):
    check_heard(standing.net, ropes)
    check_station(standing.net, station)
    reds = [there.reds[station] for there in heard_ends(standing, ropes)]
    return min(reds), max(reds)


def heard_to(standing, ropes, goal):
    check_same_net(standing, goal)
    check_heard(standing.net, ropes)
    many, _ = ends_or_none(standing, ropes).get(goal.key(), (0, ()))
    return many


def check_heard(net, ropes):
    for rope in ropes:
        check_rope(net, rope)
    if len(ropes) > MOST_HEARD:
        raise TooMany(MOST_HEARD)


def ends_or_none(standing, ropes):
    """The same as ends_heard, without an end where there is no fit."""
    try:
        return ends_heard(standing, ropes)
    except NoFit:
        return {}


def ends_heard(standing, ropes):
    """For the key of each last standing, the number of fits that lead to it and the least of them.

    A fit is told by the indexes of its colours, so that red is less than blue.
    """
    ends = {standing.key(): (1, ())}
    for step, rope in enumerate(ropes):
        ends = ends_after(standing.net, ends, rope)
        if not ends:
            raise NoFit(step)
    return ends


def ends_after(net, ends, rope):
    found = {}
    for key, (many, least) in ends.items():
        for colour, after in rides_on_key(net, key, rope):
            fit = least + (COLOURS.index(colour),)
            more, other = found.get(after, (0, fit))
            found[after] = (more + many, min(other, fit))
    return found
