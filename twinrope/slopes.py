"""Slopes, the ropes that join the same two stations (point 37)."""

from math import comb

from twinrope.books import books_of
from twinrope.checks import check_station
from twinrope.errors import BadWidth, NotSlopes, TooMany
from twinrope.homeward import inward_ways, low_cars, numbers_inward, placed_guests
from twinrope.nets import Net
from twinrope.standings import check_totals
from twinrope.ways import distances, rope_steps


def slopes_of(net):
    ropes_between = {}
    for rope, ends in enumerate(net.ropes):
        ropes_between.setdefault((min(ends), max(ends)), []).append(rope)
    return [(pair[0], pair[1], ropes_between[pair]) for pair in sorted(ropes_between)]


def slope_tree(net):
    return len(slopes_of(net)) == net.stations - 1


def check_slopes(net, home):
    if not slope_tree(net):
        raise NotSlopes()
    check_station(net, home)


def slope_ways(net, home):
    return inward_ways(net, home, [(start, end, len(ropes)) for start, end, ropes in slopes_of(net)])


def slope_numbers(standing, home):
    check_slopes(standing.net, home)
    return numbers_inward(books_of(standing).entries, slope_ways(standing.net, home))


def slope_homeward(standing, home):
    numbers = slope_numbers(standing, home)
    ways = slope_ways(standing.net, home)
    totals = (standing.red_total, standing.blue_total)
    reds, blues = placed_guests(standing.net, home, ways, numbers, totals)
    lows = [low_cars(number, len(slope[2])) for number, slope in zip(numbers, slopes_of(standing.net))]
    return reds, blues, lows


def slope_rides(standing, home):
    reds, blues, _ = slope_homeward(standing, home)
    far = distances([home], rope_steps(standing.net.ropes))
    # Each homeward ride brings one guest nearer by one rope.
    before = [red + blue for red, blue in zip(standing.reds, standing.blues)]
    after = [red + blue for red, blue in zip(reds, blues)]
    return sum([(before[station] - after[station]) * far[station] for station in range(standing.net.stations)])


def slope_kind_count(widths, reds, blues):
    for place, width in enumerate(widths):
        if width < 1:
            raise BadWidth(place)
    if sum(widths) > Net.MOST_ROPES:
        raise TooMany(Net.MOST_ROPES)
    check_totals(reds, blues)
    return sum([ways * comb(reds + ahead, ahead) * comb(blues + behind, behind)
                for (ahead, behind), ways in sort_counts(widths).items()])


def sort_counts(widths):
    """In how many ways so many slopes have numbers of at least 0, and so many have numbers that need blue guests.

    Each other slope has one of the numbers for which there is no guest at its lower end.
    """
    counts = {(0, 0): 1}
    for width in widths:
        longer = {}
        for (ahead, behind), ways in counts.items():
            for key, times in (((ahead + 1, behind), 1), ((ahead, behind), width - 1), ((ahead, behind + 1), 1)):
                longer[key] = longer.get(key, 0) + ways * times
        counts = longer
    return counts
