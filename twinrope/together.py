"""The house in which a red and a blue guest may also ride at once (points 60 and 61)."""

from twinrope.arrows import arrow_steps, can_meet, meeting_way, stations_with
from twinrope.checks import COLOURS, check_rope, check_same_net, check_tree
from twinrope.counts import kind_count, meeting_count
from twinrope.errors import NotPossible, NoTurn, TogetherApart, TooMany
from twinrope.houses import House, check_step
from twinrope.kinship import difference_of
from twinrope.pairs import WORDS, Pair, can_step_together, stepped_together
from twinrope.plans import plan_of
from twinrope.rides import guests_of
from twinrope.ways import rope_steps, shortest_way

MOST_TOGETHER = 8


class Together(House):
    """The steps are the rides, and those in which both cars of a rope have their guests."""

    WORD = "together"

    def words(self):
        return WORDS

    def steps(self, standing):
        ropes = range(len(standing.net.ropes))
        return [(rope, word) for rope in ropes for word in WORDS if can_step_together(standing, rope, word)]

    def step_to(self, standing, rope, word):
        check_step(standing.net, rope, word, WORDS)
        if not can_step_together(standing, rope, word):
            raise NotPossible(0, rope, word)
        return stepped_together(standing, rope, word)

    def same_kind(self, first, second):
        return together_difference(first, second) is None

    def kind_total(self, net, reds, blues):
        check_tree(net)
        meeting = meeting_count(len(net.ropes), reds, blues)
        return kind_count(len(net.ropes), reds, blues) - meeting + min(meeting, 1)


def together_difference(first, second):
    check_same_net(first, second)
    if first.red_total != second.red_total:
        return "reds", first.red_total, second.red_total
    if first.blue_total != second.blue_total:
        return "blues", first.blue_total, second.blue_total
    meets = can_meet(first)
    if meets != can_meet(second):
        return "meet", meets, not meets
    if meets:
        return None
    return difference_of(first, second)


def turn_one(standing, rope):
    check_rope(standing.net, rope)
    steps = [(start, end, other) for start, end, other in arrow_steps(standing) if other != rope]
    way = shortest_way(stations_with(standing.reds), stations_with(standing.blues), steps)
    if way is None:
        raise NoTurn(rope)
    pair = Pair(standing, way)
    pair.go_to(standing.net.ends(rope))
    # None of these steps is over the rope, so they can be undone after it has been turned.
    back = pair.taken[::-1]
    pair.turn(rope)
    return pair.taken + back


def together_row(first, second):
    check_same_net(first, second)
    if first.net.stations > MOST_TOGETHER or first.red_total + first.blue_total > MOST_TOGETHER:
        raise TooMany(MOST_TOGETHER)
    why = together_difference(first, second)
    if why is not None:
        raise TogetherApart(why)
    if not can_meet(first):
        return plan_of(first, second)
    return gathering_steps(first) + gathering_steps(second)[::-1]


def gathering_steps(standing):
    """Steps after which all guests are at station 0 and each red car is at the first end of its rope."""
    pair = Pair(standing, meeting_way(standing))
    found = strays(pair)
    while found:
        station, colour = found[0]
        pair.go_to([station])
        for rope in shortest_way([station], [0], rope_steps(standing.net.ropes))[1]:
            pair.lead(rope, colour)
        found = strays(pair)
    for rope in [other for other, car in enumerate(pair.here.cars) if car == 1]:
        pair.go_to(standing.net.ends(rope))
        pair.turn(rope)
    pair.go_to([0])
    return pair.taken


def strays(pair):
    """The pairs (station, colour) of the guests, besides the pair, who are not at station 0."""
    found = []
    for station in range(1, pair.here.net.stations):
        own = 1 if station == pair.place else 0
        found.extend([(station, colour) for colour in COLOURS if guests_of(pair.here, colour)[station] > own])
    return found
