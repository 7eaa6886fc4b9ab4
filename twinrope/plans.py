"""Rows that lead from one standing to another on any net (point 48)."""

from twinrope.bills import Bill, bill_of
from twinrope.checks import COLOURS
from twinrope.floors import floor_number, floor_paper
from twinrope.least import useful_with
from twinrope.rides import car_of, guests_of, walk
from twinrope.visits import lone_row, pair_row


def plan_of(first, second):
    bill = floor_paper(first, second)[0]
    row = []
    here = first
    while here != second:
        rides = useful_with(here, list(zip(bill.reds, bill.blues)))
        if rides:
            part = [rides[0]]
            bill = bill - bill_of(here, part)
        else:
            circle = idle_circle(here, bill)
            part = turning_row(here, circle)
            bill = bill_without(bill, circle)
        row = row + part
        here = walk(here, part)[-1]
    return row


def range_of_rows(first, second):
    return floor_number(first, second), len(plan_of(first, second))


def idle_circle(standing, bill):
    """The ropes of a circle that has to be turned, in a standing in which no ride of the bill is possible.

    Where a rope of the bill begins, no guest waits who could run it next. So another rope has to bring one there
    first, and so on backwards, until a station comes again. As the cost of the bill is least, all these ropes are to
    be run once, by guests of one colour.
    """
    rope = [other for other in range(len(bill.reds)) if bill.reds[other] != 0 or bill.blues[other] != 0][0]
    begins = []
    trail = []
    begin = ends_in_bill(bill, rope)[0]
    while begin not in begins:
        begins.append(begin)
        rope = feeding_rope(bill, begin, next_colour(standing, bill, rope))
        trail.append(rope)
        begin = ends_in_bill(bill, rope)[0]
    return trail[begins.index(begin):]


def ends_in_bill(bill, rope):
    """The end of the rope from which the guests of the bill cross it, and the other end."""
    start, end = bill.net.ropes[rope]
    if bill.reds[rope] + bill.blues[rope] > 0:
        return start, end
    return end, start


def next_colour(standing, bill, rope):
    begin = ends_in_bill(bill, rope)[0]
    return [colour for colour in COLOURS if car_of(standing, rope, colour) == begin][0]


def feeding_rope(bill, station, colour):
    """The first rope over which the bill brings a guest of the colour to the station."""
    crossings = bill.reds if colour == "red" else bill.blues
    return [rope for rope, many in enumerate(crossings) if many != 0 and ends_in_bill(bill, rope)[1] == station][0]


def turning_row(standing, circle):
    """A row in which one guest comes to the circle and rides round it, and everybody goes back the same way."""
    stations = sorted({station for rope in circle for station in standing.net.ropes[rope]})
    row, colour = row_to(standing, stations)
    there = walk(standing, row)[-1]
    place = [station for station in stations if guests_of(there, colour)[station] > 0][0]
    return row + round_row(there, place, circle, colour) + row[::-1]


def row_to(standing, goals):
    """A pair (row, colour): after the row, which touches the goals only at its end, such a guest is at one of them."""
    rows = [(lone_row(standing, goals, colour), colour) for colour in COLOURS]
    found = [pair for pair in rows if pair[0] is not None]
    if found:
        return min(found, key=lambda pair: len(pair[0]))
    return pair_row(standing, goals), "red"


def round_row(standing, place, circle, colour):
    """The row in which a guest at the place rides once round the circle; at each station one car of it is at hand."""
    row = []
    for _ in circle:
        rope = [other for other in circle if car_of(standing, other, colour) == place][0]
        row.append((rope, colour))
        place = standing.net.other_end(rope, place)
    return row


def bill_without(bill, ropes):
    """The bill without the crossings of these ropes."""
    reds = [0 if rope in ropes else many for rope, many in enumerate(bill.reds)]
    blues = [0 if rope in ropes else many for rope, many in enumerate(bill.blues)]
    return Bill(bill.net, reds, blues)
