"""Verdicts that can be checked without a search, and the lengths of rows (points 49 and 50)."""

from twinrope.books import books_of
from twinrope.checks import check_exact, check_same_net
from twinrope.errors import BadCount
from twinrope.floors import floor_number
from twinrope.kinship import are_alike, difference_of
from twinrope.marks import marks_of, still_by
from twinrope.plans import plan_of
from twinrope.rides import end_or_none, rides_from


def verdict_of(first, second):
    why = difference_of(first, second)
    if why is None:
        return "alike", plan_of(first, second)
    if why[0] == "rope":
        return "apart", why, marks_of(first)
    return "apart", why, None


def verdict_holds(first, second, claim):
    check_same_net(first, second)
    if claim[0] == "alike":
        return end_or_none(first, claim[1]) == second
    _, why, marks = claim
    if why[0] == "rope":
        return rope_parts(first, second, why[1], marks)
    if why[0] == "book" and not 0 <= why[1] < first.net.stations:
        return False
    shown = totals_shown(first, second) if why[0] == "reds" else books_shown(first, second, why[1])
    return marks is None and why == shown and why[-1] != why[-2]


def totals_shown(first, second):
    return "reds", first.red_total, second.red_total


def books_shown(first, second, station):
    return "book", station, books_of(first)[station], books_of(second)[station]


def rope_parts(first, second, rope, marks):
    if not 0 <= rope < len(first.net.ropes) or first.cars[rope] == second.cars[rope]:
        return False
    return still_by(first, marks, rope)


def can_take(first, second, count):
    check_exact(first.net)
    check_same_net(first, second)
    if count < 0:
        raise BadCount(count)
    if not are_alike(first, second):
        return False
    more_rides = count - floor_number(first, second)
    if more_rides < 0 or more_rides % 2 != 0:
        return False
    return count == 0 or rides_from(first) != []
