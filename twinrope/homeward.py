"""Homeward rides on a tree, and the numbers of kinds (points 29 to 31)."""

from twinrope.books import books_of
from twinrope.checks import COLOURS, check_station, check_tree
from twinrope.errors import BadNumbers, OtherSize, Short
from twinrope.rides import car_of, guests_of, ridden
from twinrope.standings import Standing, check_totals
from twinrope.trees import toward
from twinrope.ways import distances, rope_steps


def homeward_rides(standing, home):
    return homeward_with(standing, lower_ends(standing.net, home))


def homeward_row(standing, home):
    lows = lower_ends(standing.net, home)
    row = []
    here = standing
    rides = homeward_with(here, lows)
    while rides:
        rope, colour = rides[0]
        row.append((rope, colour))
        here = ridden(here, rope, colour)
        rides = homeward_with(here, lows)
    return row


def lower_ends(net, home):
    """The end that is farther from home, for each rope."""
    lows = [home] * len(net.ropes)
    for station, rope in enumerate(toward(net, home)):
        if rope is not None:
            lows[rope] = station
    return lows


def homeward_with(standing, lows):
    return [(rope, colour) for rope, low in enumerate(lows) for colour in COLOURS
            if car_of(standing, rope, colour) == low and guests_of(standing, colour)[low] > 0]


def homeward_standing(standing, home):
    # The numbers decide where the rides end, so none has to be taken.
    numbers = numbers_of(standing, home)
    return from_numbers(standing.net, home, numbers, standing.red_total, standing.blue_total)


def numbers_of(standing, home):
    return numbers_of_books(standing.net, home, books_of(standing))


def from_numbers(net, home, numbers, reds, blues):
    check_tree(net)
    check_station(net, home)
    check_totals(reds, blues)
    if len(numbers) != len(net.ropes):
        raise BadNumbers(len(numbers))
    check_needs(numbers, reds, blues)
    ways = tree_ways(net, home)
    red_list, blue_list = placed_guests(net, home, ways, numbers, (reds, blues))
    cars = [0] * len(net.ropes)
    for lower, nearer, rope, _ in ways:
        red_end = nearer if numbers[rope] >= 0 else lower
        cars[rope] = net.ropes[rope].index(red_end)
    return Standing(net, red_list, blue_list, cars)


def check_needs(numbers, reds, blues):
    red_need, blue_need = needs_of(numbers)
    if red_need > reds:
        raise Short("red", red_need - reds)
    if blue_need > blues:
        raise Short("blue", blue_need - blues)


def needs_of(numbers):
    """How many red and how many blue guests the numbers place."""
    return sum([number for number in numbers if number >= 0]), sum([-1 - number for number in numbers if number < 0])


def numbers_of_books(net, home, books):
    check_tree(net)
    check_station(net, home)
    if len(books) != net.stations:
        raise OtherSize(len(books), net.stations)
    return numbers_inward(books.entries, tree_ways(net, home))


def standing_of_books(net, books, reds, blues):
    check_tree(net)
    check_totals(reds, blues)
    numbers = numbers_of_books(net, 0, books)
    red_need, blue_need = needs_of(numbers)
    if red_need > reds or blue_need > blues:
        return None
    standing = from_numbers(net, 0, numbers, reds, blues)
    if books_of(standing) != books:
        return None
    return standing


def rehome(net, home, numbers, reds, blues, new_home):
    check_tree(net)
    check_station(net, home)
    check_totals(reds, blues)
    check_station(net, new_home)
    return numbers_of(from_numbers(net, home, numbers, reds, blues), new_home)


def tree_ways(net, home):
    return inward_ways(net, home, [(start, end, 1) for start, end in net.ropes])


def inward_ways(net, home, links):
    """The tuples (lower end, nearer end, place, width) of the links (start, end, width), from the ends of the net in.

    A link is a rope of a tree, or several ropes side by side. Its place is its index.
    """
    far = distances([home], rope_steps(net.ropes))
    found = []
    for place, (start, end, width) in enumerate(links):
        lower, nearer = (start, end) if far[start] > far[end] else (end, start)
        found.append((far[lower], lower, nearer, place, width))
    return [(lower, nearer, place, width) for _, lower, nearer, place, width in sorted(found, reverse=True)]


def numbers_inward(entries, ways):
    """The number of each link: the book of its lower end, plus the red cars there of links from farther out."""
    sums = list(entries)
    numbers = [0] * len(ways)
    for lower, nearer, place, width in ways:
        numbers[place] = sums[lower]
        sums[nearer] += width - low_cars(sums[lower], width)
    return numbers


def low_cars(number, width):
    """How many red cars of a link with this number are at its lower end after all homeward rides."""
    return min(max(-number, 0), width)


def placed_guests(net, home, ways, numbers, totals):
    """The red and the blue guests at each station after all homeward rides; the rest of the totals is at home."""
    reds = [0] * net.stations
    blues = [0] * net.stations
    for lower, _, place, width in ways:
        reds[lower] = max(numbers[place], 0)
        blues[lower] = max(-width - numbers[place], 0)
    reds[home] = totals[0] - sum(reds)
    blues[home] = totals[1] - sum(blues)
    return reds, blues
