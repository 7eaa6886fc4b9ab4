"""Tables of a standing and of the numbers of kinds (point 70)."""

from twinrope.books import books_of
from twinrope.counts import check_rope_count, kind_count
from twinrope.errors import BadCount, TooMany

MOST_IN_TABLE = 15


def table_of(standing):
    stations = range(standing.net.stations)
    books = books_of(standing)
    rows = [(station, standing.reds[station], standing.blues[station], standing.red_cars_at(station), books[station])
            for station in stations]
    ropes = len(standing.net.ropes)
    total = ("sum", standing.red_total, standing.blue_total, ropes, books.total())
    return [table_line(row) for row in [("at", "reds", "blues", "cars", "book")] + rows + [total]]


def table_line(row):
    head, reds, blues, cars, book = row
    return f"{head:>3}{reds:>5}{blues:>6}{cars:>5}{book:>6}"


def kind_table(ropes, most):
    check_rope_count(ropes)
    if most < 0:
        raise BadCount(most)
    if most > MOST_IN_TABLE:
        raise TooMany(MOST_IN_TABLE)
    return [count_line(ropes, reds, most) for reds in range(most + 1)]


def count_line(ropes, reds, most):
    return "".join([f"{kind_count(ropes, reds, blues):>8}" for blues in range(most + 1)])
