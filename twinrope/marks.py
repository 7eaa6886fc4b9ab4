"""Marks, a certificate that guests never meet, and what they show (points 21 and 22)."""

from twinrope.arrows import arrows_of, blue_reach, meeting_way, red_reach, stations_with
from twinrope.checks import check_rope, check_station
from twinrope.errors import CanMeet


class Marks:
    """A red side and a blue side, two lists of integers."""

    def __init__(self, red_side, blue_side):
        self.red_side = tuple(sorted(set(red_side)))
        self.blue_side = tuple(sorted(set(blue_side)))

    def within(self, other):
        return is_inside(self.red_side, other.red_side) and is_inside(self.blue_side, other.blue_side)

    def __eq__(self, other):
        return isinstance(other, Marks) and self.red_side == other.red_side and self.blue_side == other.blue_side

    def __and__(self, other):
        reds = [item for item in self.red_side if item in other.red_side]
        blues = [item for item in self.blue_side if item in other.blue_side]
        return Marks(reds, blues)


def is_inside(part, whole):
    return all([item in whole for item in part])


def marks_hold(standing, marks):
    red_side = marks.red_side
    blue_side = marks.blue_side
    if not is_inside(red_side + blue_side, list(range(standing.net.stations))):
        return False
    if not is_inside(stations_with(standing.reds), red_side):
        return False
    if not is_inside(stations_with(standing.blues), blue_side):
        return False
    if any([station in blue_side for station in red_side]):
        return False
    return not any([leaves_a_side(start, end, red_side, blue_side) for start, end in arrows_of(standing)])


def leaves_a_side(start, end, red_side, blue_side):
    """Whether guests may leave their side over the arrow; the blue ones ride against it."""
    if start in red_side and end not in red_side:
        return True
    return end in blue_side and start not in blue_side


def marks_of(standing):
    way = meeting_way(standing)
    if way is not None:
        raise CanMeet(way[0])
    return Marks(red_reach(standing), blue_reach(standing))


def dead_by(standing, marks, station):
    check_station(standing.net, station)
    return marks_hold(standing, marks) and station not in marks.red_side and station not in marks.blue_side


def still_by(standing, marks, rope):
    check_rope(standing.net, rope)
    if standing.red_car(rope) in marks.red_side or standing.blue_car(rope) in marks.blue_side:
        return False
    return marks_hold(standing, marks)


def border_holds(standing, marks, stations):
    border = [rope for rope, ends in enumerate(standing.net.ropes) if is_border(ends, stations)]
    return marks_hold(standing, marks) and all([still_by(standing, marks, rope) for rope in border])


def is_border(ends, stations):
    start, end = ends
    return (start in stations) != (end in stations)
