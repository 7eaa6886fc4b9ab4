"""Standings and rows of rides as texts (points 14 and 15)."""

from twinrope.checks import COLOURS
from twinrope.errors import BadRide, BadText, BadWord
from twinrope.nets import Net
from twinrope.standings import Standing

HIGHEST_ROPE = 99


def write_standing(standing):
    lines = [f"stations {standing.net.stations}"]
    for rope, (start, end) in enumerate(standing.net.ropes):
        lines.append(f"rope {start} {end} {COLOURS[standing.cars[rope]]}")
    for station in range(standing.net.stations):
        reds = standing.reds[station]
        blues = standing.blues[station]
        if reds + blues > 0:
            lines.append(f"guests {station} {reds} {blues}")
    return "\n".join(lines)


def read_standing(text):
    lines = text.split("\n")
    stations = stations_in(lines[0])
    if stations is None:
        raise BadText(1)
    ropes = leading_ropes(lines[1:], stations)
    reds, blues = guests_behind(lines, 1 + len(ropes), stations)
    net = Net(stations, [(start, end) for start, end, car in ropes])
    return Standing(net, reds, blues, [car for start, end, car in ropes])


def stations_in(line):
    """The number of stations that a first line tells, or None if the line is bad."""
    numbers = numbers_in(line, "stations", 1)
    if numbers is None or not 1 <= numbers[0] <= Net.MOST_STATIONS:
        return None
    return numbers[0]


def leading_ropes(lines, stations):
    """The tuples (start, end, car) of the rope lines before the first line that cannot be one."""
    ropes = []
    for line in lines:
        rope = rope_in(line, stations)
        if rope is None or len(ropes) == Net.MOST_ROPES:
            return ropes
        ropes.append(rope)
    return ropes


def rope_in(line, stations):
    """The tuple (start, end, car) of a rope line, or None if it is not a good one."""
    rest, _, word = line.rpartition(" ")
    numbers = numbers_in(rest, "rope", 2)
    if numbers is None or word not in COLOURS:
        return None
    start, end = numbers
    if start == end or start >= stations or end >= stations:
        return None
    return start, end, COLOURS.index(word)


def guests_behind(lines, begin, stations):
    """The guests that the lines from the index `begin` on tell."""
    reds = [0] * stations
    blues = [0] * stations
    least = 0
    for at in range(begin, len(lines)):
        numbers = numbers_in(lines[at], "guests", 3)
        if numbers is None:
            raise BadText(at + 1)
        station, red, blue = numbers
        if not least <= station < stations or red + blue == 0:
            raise BadText(at + 1)
        reds[station] = red
        blues[station] = blue
        least = station + 1
        if sum(reds) + sum(blues) > Standing.MOST_GUESTS:
            raise BadText(at + 1)
    return reds, blues


def numbers_in(line, word, many):
    """The numbers of a line of this word and so many numbers, or None if it is another line."""
    first, *rest = line.split(" ")
    if first != word or len(rest) != many:
        return None
    numbers = [number_in(part) for part in rest]
    if None in numbers:
        return None
    return numbers


def number_in(word):
    """The number that one or two digits write, or None if the word is no such number."""
    # The methods of strings also take digits that are not from 0 to 9.
    if any([sign not in "0123456789" for sign in word]):
        return None
    if len(word) == 1 or (len(word) == 2 and word[0] != "0"):
        return int(word)
    return None


def write_trip(rides):
    for place, (rope, colour) in enumerate(rides):
        if not 0 <= rope <= HIGHEST_ROPE or colour not in COLOURS:
            raise BadRide(place)
    return " ".join([f"{colour[0]}{rope}" for rope, colour in rides])


def read_trip(text):
    if text == "":
        return []
    rides = []
    for place, word in enumerate(text.split(" ")):
        ride = ride_in(word)
        if ride is None:
            raise BadWord(place)
        rides.append(ride)
    return rides


def ride_in(word):
    """The ride that a word tells, or None if the word is bad."""
    rope = number_in(word[1:])
    if rope is None:
        return None
    for colour in COLOURS:
        if word[0] == colour[0]:
            return rope, colour
    return None
