"""When the facts of a lot are right (point 65).

Each check gets the two standings, the content of the fact, and the facts that it uses.
"""

from twinrope.bills import Bill
from twinrope.books import books_of
from twinrope.floors import paper_holds
from twinrope.marks import Marks, marks_hold
from twinrope.rides import end_or_none

VERDICTS = ("alike", "least", "apart")


def totals_right(first, second, content, used):
    return not used and all([(there.red_total, there.blue_total) == content for there in (first, second)])


def book_right(first, second, content, used):
    station, value = content
    return not used and books_at(first, second, station) == (value, value)


def books_at(first, second, station):
    """The books of the station in both standings, or None if there is no such station."""
    if not has_station(first.net, station):
        return None
    return books_of(first)[station], books_of(second)[station]


def has_station(net, station):
    return 0 <= station < net.stations


def has_rope(net, rope):
    return 0 <= rope < len(net.ropes)


def marks_right(first, second, content, used):
    red_side, blue_side = content
    return not used and marks_hold(first, Marks(red_side, blue_side))


def dead_right(first, second, content, used):
    station = content[0]
    if words_of(used) != ["marks"] or not has_station(first.net, station):
        return False
    red_side, blue_side = used[0][1]
    return station not in red_side and station not in blue_side


def words_of(facts):
    return [word for word, content, uses in facts]


def guest_right(first, second, content, used):
    station, rides = content
    there = end_or_none(first, rides)
    if used or there is None or not has_station(first.net, station):
        return False
    return there.reds[station] + there.blues[station] > 0


def still_right(first, second, content, used):
    rope = content[0]
    if words_of(used) != ["dead", "dead"] or not has_rope(first.net, rope):
        return False
    return first.net.ropes[rope] == (used[0][1][0], used[1][1][0])


def rope_right(first, second, content, used):
    rope = content[0]
    if not has_rope(first.net, rope):
        return False
    if words_of(used) == ["guest"]:
        return used[0][1][0] in first.net.ropes[rope]
    return words_of(used) == ["still"] and used[0][1][0] == rope and first.cars[rope] == second.cars[rope]


def walk_right(first, second, content, used):
    return not used and end_or_none(first, content[0]) == second


def bill_right(first, second, content, used):
    reds, blues, levels, number = content
    ropes = len(first.net.ropes)
    if used or len(reds) != ropes or len(blues) != ropes:
        return False
    bill = Bill(first.net, reds, blues)
    return paper_holds(first, second, bill, levels) and bill.cost() == number


def counts_right(first, second, content, used):
    a, b = content
    return not used and a != b and (first.red_total, second.red_total) == (a, b)


def unlike_right(first, second, content, used):
    station, a, b = content
    return not used and a != b and books_at(first, second, station) == (a, b)


def alike_right(first, second, content, used):
    stations = list(range(first.net.stations))
    ropes = list(range(len(first.net.ropes)))
    # The words come before the contents: a fact of another word may have an empty content.
    if words_of(used) != ["totals"] + ["book"] * len(stations) + ["rope"] * len(ropes):
        return False
    return [about[0] for word, about, uses in used[1:]] == stations + ropes


def least_right(first, second, content, used):
    number = content[0]
    if words_of(used) != ["walk", "bill"]:
        return False
    return len(used[0][1][0]) == number and used[1][1][3] == number


def apart_right(first, second, content, used):
    if words_of(used) == ["still"]:
        rope = used[0][1][0]
        return first.cars[rope] != second.cars[rope]
    return words_of(used) in (["counts"], ["unlike"])


CHECKS = {
    "totals": totals_right, "book": book_right, "marks": marks_right, "dead": dead_right, "guest": guest_right,
    "still": still_right, "rope": rope_right, "walk": walk_right, "bill": bill_right, "counts": counts_right,
    "unlike": unlike_right, "alike": alike_right, "least": least_right, "apart": apart_right,
}


def is_fact_word(word):
    return word in CHECKS


def is_right(first, second, fact, facts):
    """Whether the fact is right; its uses are known to be indexes of the facts."""
    word, content, uses = fact
    check = CHECKS[word]
    return check(first, second, content, [facts[use] for use in uses])
