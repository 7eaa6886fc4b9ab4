"""How many kinds there are on a tree (point 32)."""

from math import comb

from twinrope.errors import BadCount, TooMany
from twinrope.nets import Net
from twinrope.standings import check_totals


def choose(n, k):
    if n < 0:
        raise BadCount(n)
    if not 0 <= k <= n:
        return 0
    return comb(n, k)


def kind_count(ropes, reds, blues):
    check_rope_count(ropes)
    check_totals(reds, blues)
    return row_count(ropes, reds, blues)


def meeting_count(ropes, reds, blues):
    check_rope_count(ropes)
    check_totals(reds, blues)
    if reds == 0 or blues == 0:
        return 0
    return row_count(ropes, reds - 1, blues - 1)


def check_rope_count(ropes):
    if ropes < 0:
        raise BadCount(ropes)
    if ropes > Net.MOST_ROPES:
        raise TooMany(Net.MOST_ROPES)


def row_count(ropes, reds, blues):
    """How many rows of numbers need at most these totals; rows of any length may be asked for."""
    return sum([comb(ropes, j) * comb(reds + j, j) * comb(blues + ropes - j, ropes - j) for j in range(ropes + 1)])
