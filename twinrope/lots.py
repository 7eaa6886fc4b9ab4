"""Lots, lists of small facts that end with a verdict (points 65 to 67)."""

from twinrope.arrows import dead_ropes, dead_stations
from twinrope.books import books_of
from twinrope.checks import check_exact, check_same_net
from twinrope.errors import BadLot, BadUse, LotClosed, NoFact, WrongFact
from twinrope.facts import VERDICTS, is_fact_word, is_right
from twinrope.floors import floor_paper
from twinrope.kinship import difference_of
from twinrope.marks import marks_of
from twinrope.plans import plan_of
from twinrope.visits import visit_row


class Lot:
    """Facts about two standings of one net."""

    def __init__(self, first, second):
        check_same_net(first, second)
        self.first = first
        self.second = second
        self._facts = []

    @classmethod
    def replayed(cls, first, second, facts):
        lot = cls(first, second)
        for at, (word, content, uses) in enumerate(facts):
            try:
                lot.put(word, content, uses)
            except (LotClosed, NoFact, BadUse, WrongFact) as e:
                raise BadLot(at) from e
        return lot

    @property
    def closed(self):
        if not self._facts or self._facts[-1][0] not in VERDICTS:
            return False
        # A fact uses only earlier ones, so the last one is not among these.
        used = {use: True for word, content, uses in self._facts for use in uses}
        return len(used) == len(self._facts) - 1

    @property
    def facts(self):
        return list(self._facts)

    @property
    def outcome(self):
        if not self.closed:
            return None
        return self._facts[-1][0]

    def put(self, word, content, uses):
        if self.closed:
            raise LotClosed()
        if not is_fact_word(word):
            raise NoFact(word)
        for place, use in enumerate(uses):
            if not 0 <= use < len(self._facts):
                raise BadUse(place)
        fact = (word, content, uses)
        if not is_right(self.first, self.second, fact, self._facts):
            raise WrongFact(word)
        self._facts.append(fact)
        return len(self._facts) - 1

    def __len__(self):
        return len(self._facts)

    def __contains__(self, fact):
        return fact in self._facts


def closed_lot(first, second, *, least=False):
    if least:
        check_exact(first.net)
    lot = Lot(first, second)
    if least:
        put_least(lot)
        return lot
    why = difference_of(first, second)
    if why is None:
        put_alike(lot)
    elif why[0] == "rope":
        still = put_still(lot, [why[1]])
        lot.put("apart", (), (still[why[1]],))
    else:
        shown = lot.put("counts" if why[0] == "reds" else "unlike", why[1:], ())
        lot.put("apart", (), (shown,))
    return lot


def put_least(lot):
    rides = plan_of(lot.first, lot.second)
    bill, levels = floor_paper(lot.first, lot.second)
    way = lot.put("walk", (tuple(rides),), ())
    paper = lot.put("bill", (bill.reds, bill.blues, tuple(levels), bill.cost()), ())
    lot.put("least", (len(rides),), (way, paper))


def put_alike(lot):
    uses = [lot.put("totals", (lot.first.red_total, lot.first.blue_total), ())]
    for station, entry in enumerate(books_of(lot.first).entries):
        uses.append(lot.put("book", (station, entry), ()))
    ropes = put_ropes(lot)
    lot.put("alike", (), tuple(uses + ropes))


def put_ropes(lot):
    """Puts a fact for each rope, and what it uses; returns the indexes in the order of the ropes."""
    dead = dead_stations(lot.first)
    still = put_still(lot, dead_ropes(lot.first))
    guests = {}
    found = []
    for rope, (start, end) in enumerate(lot.first.net.ropes):
        if rope in still:
            shown = still[rope]
        else:
            shown = put_guest(lot, guests, end if start in dead else start)
        found.append(lot.put("rope", (rope,), (shown,)))
    return found


def put_guest(lot, guests, station):
    """Puts that a guest comes to the station, unless this has been put already."""
    if station not in guests:
        guests[station] = lot.put("guest", (station, tuple(visit_row(lot.first, station))), ())
    return guests[station]


def put_still(lot, ropes):
    """Puts that these ropes, whose two ends are dead, are still; returns the index for each rope."""
    if not ropes:
        return {}
    marks = marks_of(lot.first)
    shown = lot.put("marks", (marks.red_side, marks.blue_side), ())
    net = lot.first.net
    dead = {}
    for station in sorted({station for rope in ropes for station in net.ropes[rope]}):
        dead[station] = lot.put("dead", (station,), (shown,))
    still = {}
    for rope in ropes:
        start, end = net.ropes[rope]
        still[rope] = lot.put("still", (rope,), (dead[start], dead[end]))
    return still
