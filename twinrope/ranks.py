"""Ranks of rows of numbers, and kinds by their ranks (points 33 and 34)."""

from twinrope.checks import check_station, check_tree
from twinrope.counts import check_rope_count, row_count
from twinrope.errors import BadRank, TooMany
from twinrope.homeward import check_needs, from_numbers, needs_of, numbers_of
from twinrope.standings import MOST_LISTED, check_totals


def rank_of(numbers, reds, blues):
    check_totals(reds, blues)
    check_needs(numbers, reds, blues)
    rank = 0
    left = (reds, blues)
    for place, number in enumerate(numbers):
        more = len(numbers) - place - 1
        rank += sum([rows_behind(smaller, more, left) for smaller in range(-1 - left[1], number)])
        left = left_over(number, left)
    return rank


def numbers_at(rank, ropes, reds, blues):
    check_rope_count(ropes)
    check_totals(reds, blues)
    if not 0 <= rank < row_count(ropes, reds, blues):
        raise BadRank(rank)
    numbers = []
    left = (reds, blues)
    for place in range(ropes):
        more = ropes - place - 1
        number = -1 - left[1]
        rows = rows_behind(number, more, left)
        while rank >= rows:
            rank -= rows
            number += 1
            rows = rows_behind(number, more, left)
        numbers.append(number)
        left = left_over(number, left)
    return numbers


def rows_behind(number, more, left):
    """How many rows go on behind the number with so many more numbers."""
    reds, blues = left_over(number, left)
    return row_count(more, reds, blues)


def left_over(number, left):
    """The red and the blue guests that are left when the number has placed its own."""
    red_need, blue_need = needs_of([number])
    return left[0] - red_need, left[1] - blue_need


def next_numbers(numbers, reds, blues):
    check_totals(reds, blues)
    check_needs(numbers, reds, blues)
    for place in range(len(numbers) - 1, -1, -1):
        grown = list(numbers[:place]) + [numbers[place] + 1]
        red_need, blue_need = needs_of(grown)
        if red_need <= reds:
            return grown + least_numbers(len(numbers) - place - 1, blues - blue_need)
    return None


def least_numbers(many, blues):
    """The first row of so many numbers, for so many blue guests."""
    if many == 0:
        return []
    return [-1 - blues] + [-1] * (many - 1)


def kind_rank(standing, home):
    return rank_of(numbers_of(standing, home), standing.red_total, standing.blue_total)


def kind_at(net, home, rank, reds, blues):
    check_tree(net)
    check_station(net, home)
    return from_numbers(net, home, numbers_at(rank, len(net.ropes), reds, blues), reds, blues)


def every_kind(net, home, reds, blues):
    check_tree(net)
    check_station(net, home)
    check_totals(reds, blues)
    if row_count(len(net.ropes), reds, blues) > MOST_LISTED:
        raise TooMany(MOST_LISTED)
    numbers = least_numbers(len(net.ropes), blues)
    while numbers is not None:
        yield from_numbers(net, home, numbers, reds, blues)
        numbers = next_numbers(numbers, reds, blues)
