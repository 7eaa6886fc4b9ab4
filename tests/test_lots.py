"""Points 65 to 67: facts and lots."""

import unittest
from itertools import product
from random import Random

from case import FAR, Case
from lot_oracle import VERDICTS, is_closed, right
from oracle import (CIRCLES, OTHERS, RINGS, SMALL_NETS, TREES, arrows_at, book_of, closure, great_net, great_tree,
                    place_of, places_with, some_place, some_row, standing_of, steps_from, where)
from twinrope.errors import (Apart, BadLot, BadUse, LotClosed, NoFact, NotExact, OtherNet, WrongFact)
from twinrope.floors import floor_paper
from twinrope.kinship import difference_of
from twinrope.lots import Lot, closed_lot
from twinrope.nets import Net
from twinrope.plans import plan_of
from twinrope.standings import Standing

WORDS = ["totals", "book", "marks", "dead", "guest", "still", "rope", "walk", "bill", "counts", "unlike", "alike",
         "least", "apart"]
# Ropes 0 and 1 can run, the circle of the ropes 2 to 4 is dead.
NET = CIRCLES[1]
FIRST = Standing(NET, [2, 0, 0, 0, 0], [0, 0, 0, 0, 0], [0, 1, 0, 0, 0])
SECOND = Standing(NET, [1, 1, 0, 0, 0], [0, 0, 0, 0, 0], [1, 1, 0, 0, 0])
TURNED = Standing(NET, [1, 1, 0, 0, 0], [0, 0, 0, 0, 0], [1, 1, 1, 1, 1])
GREAT = [great_net(), great_tree(), Net.ring(24), Net.row(24)]


def content_by(word, net, one, two, facts, rng):
    """A content for the word, often a right one."""
    station = rng.choice([rng.randrange(net.stations)] * 6 + [-1, net.stations, FAR])
    rope = rng.choice(list(range(len(net.ropes))) * 4 + [-1, len(net.ropes), FAR])
    inside = 0 <= station < net.stations
    books = [book_of(net, place, station) if inside else 0 for place in (one, two)]
    near = rng.choice([0, 0, 0, 1, -1])
    rides = tuple(some_row(net, one, rng.randrange(4), rng)[0])
    if not rng.randrange(5):
        rides += ((rope, rng.choice(["red", "blue", "green"])),)
    if word in ("totals", "counts"):
        ends = (one[0], one[1]) if word == "totals" else (one[0], two[0])
        return sum(ends[0]) + near, sum(ends[1])
    if word in ("book", "unlike"):
        return (station, books[0] + near) if word == "book" else (station, books[0], books[1] + near)
    if word == "marks" and rng.randrange(2):
        arrows = arrows_at(net, one)
        return tuple(closure(where(one[0]), arrows)), tuple(closure(where(one[1]), [way[::-1] for way in arrows]))
    if word == "marks":
        sides = [[s for s in range(net.stations) if rng.randrange(2)] for _ in range(2)]
        return tuple(tuple(rng.sample(side, len(side))) for side in sides)
    if word in ("dead", "still", "rope"):
        return (station,) if word == "dead" else (rope,)
    if word in ("guest", "walk"):
        return (station, rides) if word == "guest" else (rides,)
    if word == "bill" and rng.randrange(2):
        return (0,) * len(net.ropes), (0,) * len(net.ropes), (0,) * net.stations, 0
    if word == "bill":
        many = len(net.ropes)
        paper = [rng.randrange(-1, 2) for _ in range(2 * many + net.stations)]
        return tuple(paper[:many]), tuple(paper[many:2 * many]), tuple(paper[2 * many:]), rng.randrange(4)
    return (rng.randrange(3),) if word == "least" else ()


def frozen(value):
    """The same value with tuples in the place of lists."""
    return tuple(frozen(item) for item in value) if isinstance(value, (tuple, list)) else value


class Facts(Case):

    def put_all(self, first, second, facts):
        """A lot with these facts, which are right."""
        lot = Lot(first, second)
        for at, fact in enumerate(facts):
            self.assertEqual(lot.put(*fact), at)
        return lot

    def check(self, first, second, facts, fact):
        """Behind the facts, this one is put exactly if it is right."""
        lot = self.put_all(first, second, facts)
        net = first.net
        if right(net, place_of(first), place_of(second), facts, fact):
            self.assertEqual(lot.put(*fact), len(facts))
            self.assertEqual(lot.facts, facts + [fact])
            return True
        self.fails(lambda: lot.put(*fact), WrongFact, fact[0])
        self.assertEqual(lot.facts, facts)
        return False

    def test_facts_by_chance(self):
        rng = Random(65)
        done = {word: [0, 0] for word in WORDS}
        nets = SMALL_NETS + CIRCLES
        for _ in range(500):
            net = rng.choice(nets)
            one = some_place(net, *rng.choice([(0, 0), (1, 0), (1, 1), (0, 2), (2, 1)]), rng)
            two = rng.choice([one, some_place(net, 1, 1, rng), some_row(net, one, 3, rng)[1][-1]])
            lot = Lot(standing_of(net, one), standing_of(net, two))
            for _ in range(25):
                facts = lot.facts
                if lot.closed:
                    break
                word = rng.choice(WORDS)
                uses = tuple(rng.randrange(len(facts)) for _ in range(rng.choice([0, 0, 1, 1, 2])) if facts)
                if word in ("dead", "rope", "apart", "still", "least") and rng.randrange(3):
                    uses = self.fitting(word, facts, rng)
                fact = (word, content_by(word, net, one, two, facts, rng), uses)
                holds = right(net, one, two, facts, fact)
                done[word][holds] += 1
                if holds:
                    self.assertEqual(lot.put(*fact), len(facts))
                    self.assertEqual(lot.facts, facts + [fact])
                else:
                    self.fails(lambda: lot.put(*fact), WrongFact, word)
                    self.assertEqual(lot.facts, facts)
                self.assertIs(lot.closed, is_closed(lot.facts))
        # The rare ones have tests of their own.
        rare = {"alike": 0, "least": 1, "bill": 1, "still": 0}
        for word in WORDS:
            self.assertGreaterEqual(done[word][1], rare.get(word, 20), word)
            self.assertGreater(done[word][0], 100, word)

    def fitting(self, word, facts, rng):
        """Uses of words that may fit."""
        wanted = {"dead": ["marks"], "rope": ["guest", "still"], "apart": ["counts", "unlike", "still"],
                  "still": ["dead", "dead"], "least": ["walk", "bill"]}[word]
        found = [at for at, fact in enumerate(facts) if fact[0] in wanted]
        many = 2 if word in ("still", "least") else 1
        return tuple(rng.choice(found) for _ in range(many)) if found else ()

    def test_totals(self):
        for content, uses in (((2, 0), ()), ((0, 2), ()), ((2, 1), ()), ((FAR, -FAR), ()), ((-2, 0), ())):
            self.check(FIRST, SECOND, [], ("totals", content, uses))
        other = Standing(NET, [2, 0, 0, 0, 0], [1, 0, 0, 0, 0], [0, 1, 0, 0, 0])
        for first, second in ((FIRST, other), (other, FIRST)):
            for content in ((2, 0), (2, 1)):
                self.assertFalse(self.check(first, second, [], ("totals", content, ())))

    def test_books(self):
        for station in (-FAR, -5, -1, 0, 1, 4, 5, FAR):
            for value in (-1, 0, 1, FAR):
                self.check(FIRST, SECOND, [], ("book", (station, value), ()))
                self.check(FIRST, Standing.gathered(NET, 3, 0), [], ("book", (station, value), ()))
                for other in (-1, 0, 1, 2):
                    self.check(FIRST, Standing.gathered(NET, 3, 0), [], ("unlike", (station, value, other), ()))
                    self.check(FIRST, SECOND, [], ("unlike", (station, value, other), ()))

    def test_marks_and_dead(self):
        sides = [((0, 1), ()), ((1, 0), ()), ((1, 0, 1, 0), ()), ((0,), ()), ((0, 1), (2,)), ((0, 1), (2, 3, 4)),
                 ((0, 1), (4, 4, 3, 2)), ((), ()), ((0, 1, 2, 3, 4), ()), ((0, 1), (1,)), ((0, 1, -1), ()),
                 ((0, 1, FAR), ()), ((0, 1), (-FAR,))]
        put = 0
        for content in sides:
            if self.check(FIRST, SECOND, [], ("marks", content, ())):
                put += 1
                for station in (-FAR, -2, -1, 0, 1, 2, 3, 4, 5, FAR):
                    self.check(FIRST, SECOND, [("marks", content, ())], ("dead", (station,), (0,)))
        self.assertEqual(put, 6)

    def test_guests_and_walks(self):
        go = (0, "red")
        rows = [(), (go,), (go, go), (go, go, go), ((0, "blue"),), ((1, "red"),), ((-1, "red"),), ((5, "red"),),
                ((FAR, "red"),), ((0, "green"),), ((0, ""),), (go, (0, "both")), (go, (-5, "red")), (go,) * 401]
        for rides in rows:
            for station in (-5, -1, 0, 1, 2, 5, FAR):
                self.check(FIRST, SECOND, [], ("guest", (station, rides), ()))
            for second in (FIRST, SECOND, TURNED):
                self.check(FIRST, second, [], ("walk", (rides,), ()))

    def test_still_and_rope(self):
        base = [("marks", ((0, 1), ()), ()), ("dead", (2,), (0,)), ("dead", (3,), (0,)), ("dead", (4,), (0,)),
                ("guest", (0, ()), ()), ("guest", (1, ((0, "red"),)), ())]
        still = base + [("still", (2,), (1, 2))]
        for second in (SECOND, TURNED):
            for rope in (-FAR, -1, 0, 1, 2, 3, 4, 5, FAR):
                for i in range(len(base)):
                    for j in range(len(base)):
                        self.check(FIRST, second, base, ("still", (rope,), (i, j)))
                for use in range(len(still)):
                    self.check(FIRST, second, still, ("rope", (rope,), (use,)))
                self.check(FIRST, second, still, ("rope", (rope,), (6, 6)))
                for uses in ((), (1,), (1, 2, 3)):
                    self.check(FIRST, second, still, ("still", (rope,), uses))
                    self.check(FIRST, second, still, ("rope", (rope,), uses))

    def test_a_rope_that_is_not_live_for_another_reason(self):
        # Rope 1 leads from a dead station to a live one and never runs, but has no fact "still".
        base = [("marks", ((0, 1), ()), ()), ("dead", (2,), (0,)), ("guest", (1, ((0, "red"),)), ())]
        for uses in ((1, 1), (1, 2), (2, 1), (1,), ()):
            self.assertFalse(self.check(FIRST, SECOND, base, ("still", (1,), uses)))
        self.assertTrue(self.check(FIRST, SECOND, base, ("rope", (1,), (2,))))

    def test_bills(self):
        bill, levels = floor_paper(FIRST, SECOND)
        reds, blues, levels, cost = bill.reds, bill.blues, tuple(levels), bill.cost()
        good = (reds, blues, levels, cost)
        self.assertTrue(self.check(FIRST, SECOND, [], ("bill", good, ())))
        for bad in ((reds[:-1], blues, levels, cost), (reds + (0,), blues, levels, cost), (reds, (), levels, cost),
                    (reds, blues + (0,), levels, cost), (reds, blues, levels[:-1], cost), (reds, blues, (), cost),
                    (reds, blues, levels + (0,), cost), ((), (), (), 0), (reds, blues, levels, cost + 1),
                    (reds, blues, levels, -cost), (blues, reds, levels, cost), (reds, blues, (9,) + levels[1:], cost),
                    (reds, blues, levels[:-1] + (FAR,), cost), ((FAR,) + reds[1:], blues, levels, cost)):
            self.assertFalse(self.check(FIRST, SECOND, [], ("bill", bad, ())))
        # A bill that leads there, but goes round the circle for nothing, has no levels.
        round_it = tuple(many + more for many, more in zip(reds, (0, 0, 1, 1, 1)))
        self.assertFalse(self.check(FIRST, SECOND, [], ("bill", (round_it, blues, levels, cost + 3), ())))
        # A bill between standings that a rope parts is right, too: it does not show that they are alike.
        between = ((1, 0, 1, 1, 1), (0,) * 5, (0,) * 5, 4)
        self.assertTrue(self.check(FIRST, TURNED, [], ("bill", between, ())))

    def test_counts(self):
        other = Standing(NET, [1, 0, 0, 0, 0], [0, 1, 0, 0, 0], [0, 1, 0, 0, 0])
        for content in ((2, 1), (1, 2), (2, 2), (1, 1), (2, 0), (FAR, 1), (2, -FAR)):
            for first, second in ((FIRST, other), (other, FIRST), (FIRST, SECOND)):
                self.check(first, second, [], ("counts", content, ()))

    def test_words_that_take_no_uses(self):
        base = [("totals", (2, 0), ()), ("marks", ((0, 1), ()), ())]
        for word, content in (("totals", (2, 0)), ("book", (0, 1)), ("marks", ((0, 1), ())), ("guest", (0, ())),
                              ("walk", (((0, "red"),),))):
            self.assertTrue(self.check(FIRST, SECOND, base, (word, content, ())), word)
            for uses in ((0,), (1,), (0, 1), (1, 1, 1)):
                self.assertFalse(self.check(FIRST, SECOND, base, (word, content, uses)))
        other = Standing.gathered(NET, 3, 0)
        for word, content in (("counts", (2, 3)), ("unlike", (0, 1, 2))):
            self.assertTrue(self.check(FIRST, other, [], (word, content, ())))
            self.assertFalse(self.check(FIRST, other, base[1:], (word, content, (0,))))

    def test_alike(self):
        facts = closed_lot(FIRST, SECOND).facts
        word, content, uses = facts.pop()
        self.assertEqual((word, content, len(uses)), ("alike", (), 1 + 5 + 5))
        self.assertTrue(self.check(FIRST, SECOND, facts, (word, content, uses)))
        changed = [(), uses[:1], uses[:-1], uses[1:], uses[::-1], uses + uses[-1:], uses[:1] + uses, uses[:6],
                   uses[:1] + uses[6:] + uses[1:6]]
        for at in range(len(uses)):
            changed.append(uses[:at] + uses[at + 1:])
            for other in range(len(facts)):
                changed.append(uses[:at] + (other,) + uses[at + 1:])
        self.assertEqual(sum(self.check(FIRST, SECOND, facts, (word, content, some)) for some in changed), len(uses))

    def test_a_fact_used_twice_and_two_equal_facts(self):
        facts = closed_lot(FIRST, SECOND).facts
        uses = facts[-1][2]
        again = facts[:-1] + [facts[uses[1]]]
        self.assertTrue(self.check(FIRST, SECOND, again, ("alike", (), uses[:1] + (len(again) - 1,) + uses[2:])))

    def put_each(self, first, second, facts, tries):
        """Behind the facts, which do not close the lot, puts each of the tries alone; returns those that are right."""
        lot = self.put_all(first, second, facts)
        self.assertIs(lot.closed, False)
        found = []
        for fact in tries:
            if right(first.net, place_of(first), place_of(second), facts, fact):
                self.assertEqual(self.put_all(first, second, facts).put(*fact), len(facts))
                found.append(fact)
            else:
                self.fails(lambda: lot.put(*fact), WrongFact, fact[0])
        self.assertEqual(lot.facts, facts)
        return found

    def over_all_uses(self, heads, many, sizes):
        """Facts with these words and contents, over all uses of these sizes of so many facts."""
        rows = [uses for size in sizes for uses in product(range(many), repeat=size)]
        return [(word, content, uses) for word, content in heads for uses in rows]

    def test_alike_over_facts_with_an_empty_content(self):
        net = Net(2, [(0, 1), (0, 1)])
        first, second = (Standing(net, [0, 0], [1, 1], [1, car]) for car in (0, 1))
        facts = [("totals", (0, 2), ()), ("unlike", (0, -2, -1), ()), ("apart", (), (1,))]
        tries = self.over_all_uses([("alike", ())], 3, range(7))
        self.assertEqual(self.put_each(first, second, facts, tries), [])
        with self.assertRaises(BadLot) as caught:
            Lot.replayed(first, second, facts + [("alike", (), (0, 2))])
        self.assertEqual(caught.exception.place, 3)
        self.assertIs(type(caught.exception.__cause__), WrongFact)
        lone = Standing(Net(1, []), [1], [0], [])
        facts = [("totals", (1, 0), ()), ("totals", (1, 0), ()), ("book", (0, 1), ()), ("alike", (), (0, 2))]
        put = self.put_each(lone, lone, facts, self.over_all_uses([("alike", ())], 4, range(5)))
        self.assertEqual([uses for _, _, uses in put], [(0, 2), (1, 2)])

    def test_uses_of_every_word_on_a_row(self):
        net = Net.row(2)
        first, second = Standing(net, [1, 0], [0, 0], [0]), Standing(net, [0, 1], [0, 0], [1])
        facts = [("totals", (1, 0), ()), ("totals", (1, 0), ()), ("book", (0, 0), ()), ("book", (1, 0), ()),
                 ("guest", (0, ()), ()), ("rope", (0,), (4,)), ("walk", (((0, "red"),),), ()),
                 ("bill", ((1,), (0,), (0, 0), 1), ()), ("alike", (), (0, 2, 3, 5)), ("least", (1,), (6, 7))]
        heads = [("alike", ()), ("least", (1,)), ("apart", ()), ("dead", (1,)), ("still", (0,)), ("rope", (0,))]
        put = self.put_each(first, second, facts, self.over_all_uses(heads, len(facts), range(5)))
        self.assertEqual(put, [("alike", (), (0, 2, 3, 5)), ("alike", (), (1, 2, 3, 5)), ("least", (1,), (6, 7)),
                               ("rope", (0,), (4,))])

    def test_uses_of_every_word_beside_a_dead_circle(self):
        heads = [("alike", ()), ("least", (1,)), ("apart", ()), ("dead", (2,)), ("still", (2,)), ("rope", (2,))]
        base = [("totals", (2, 0), ()), ("totals", (2, 0), ())]
        base += [("book", (station, book), ()) for station, book in enumerate((1, 0, -2, -1, -1))]
        base += [("guest", (1, ((0, "red"),)), ()), ("rope", (0,), (7,)), ("rope", (1,), (7,))]
        base += [("marks", ((0, 1), ()), ())] + [("dead", (station,), (10,)) for station in (2, 3, 4)]
        base += [("still", (2,), (11, 12)), ("still", (3,), (12, 13)), ("still", (4,), (13, 11))]
        ropes = [("rope", (2,), (14,)), ("rope", (3,), (15,)), ("rope", (4,), (16,))]
        uses = (0, 2, 3, 4, 5, 6, 8, 9, 17, 18, 19)
        for second, more, alike in ((SECOND, ropes + [("alike", (), uses)], uses),
                                    (TURNED, [("apart", (), (14,))], uses[:8] + (17, 17, 17))):
            facts = base + more
            many = len(facts)
            rows = [alike[:at] + (use,) + alike[at + 1:] for at in range(len(alike)) for use in range(many)]
            tries = self.over_all_uses(heads, many, range(3)) + [("alike", (), row) for row in rows]
            put = self.put_each(FIRST, second, facts, tries)
            self.assertEqual({word for word, _, _ in put},
                             {"dead", "still"} | ({"rope", "alike"} if second is SECOND else {"apart"}))

    def test_uses_of_every_word_over_counts(self):
        other = Standing.gathered(NET, 3, 0)
        facts = [("counts", (2, 3), ()), ("unlike", (0, 1, 2), ()), ("apart", (), (0,)), ("apart", (), (1,))]
        heads = [("alike", ()), ("least", (1,)), ("apart", ()), ("dead", (2,)), ("still", (2,)), ("rope", (2,))]
        put = self.put_each(FIRST, other, facts, self.over_all_uses(heads, 4, range(4)))
        self.assertEqual(put, [("apart", (), (0,)), ("apart", (), (1,))])

    def test_least(self):
        net = Net.row(3)
        first, second = Standing(net, [1, 0, 0], [0] * 3, [0, 0]), Standing(net, [0, 0, 1], [0] * 3, [1, 1])
        bill, levels = floor_paper(first, second)
        long = ((0, "red"),) * 2 + ((0, "red"), (1, "red"))
        base = [("walk", (((0, "red"), (1, "red")),), ()), ("walk", (long,), ()),
                ("bill", (bill.reds, bill.blues, tuple(levels), 2), ()), ("totals", (1, 0), ())]
        for number in (-2, 0, 1, 2, 3, 4, FAR):
            for uses in ((0, 2), (1, 2), (2, 0), (0, 0), (2, 2), (0, 3), (3, 2), (0,), (2,), (), (0, 2, 3), (0, 2, 2)):
                holds = self.check(first, second, base, ("least", (number,), uses))
                self.assertIs(holds, (number, uses) == (2, (0, 2)))

    def test_apart(self):
        base = [("marks", ((0, 1), ()), ()), ("dead", (2,), (0,)), ("dead", (3,), (0,)), ("still", (2,), (1, 2))]
        for second, holds in ((TURNED, True), (SECOND, False)):
            self.assertIs(self.check(FIRST, second, base, ("apart", (), (3,))), holds)
            for uses in ((), (0,), (1,), (3, 3), (0, 3)):
                self.assertFalse(self.check(FIRST, second, base, ("apart", (), uses)))
        other = Standing.gathered(NET, 3, 0)
        for fact in (("counts", (2, 3), ()), ("unlike", (0, 1, 2), ())):
            self.assertTrue(self.check(FIRST, other, [fact], ("apart", (), (0,))))
            self.assertFalse(self.check(FIRST, other, [fact], ("apart", (), (0, 0))))
            self.assertFalse(self.check(FIRST, other, [fact], ("alike", (), (0,))))


class Lots(Case):

    def test_an_empty_lot(self):
        lot = Lot(FIRST, SECOND)
        self.assertEqual((lot.first, lot.second, lot.facts, len(lot)), (FIRST, SECOND, [], 0))
        self.assertIs(lot.closed, False)
        self.assertIsNone(lot.outcome)
        self.assertIs(("totals", (2, 0), ()) in lot, False)

    def test_what_it_tells(self):
        other = Standing.gathered(NET, 3, 0)
        lot = Lot(FIRST, other)
        fact = ("counts", (2, 3), ())
        self.assertEqual(lot.put(*fact), 0)
        self.assertEqual((lot.closed, lot.outcome, len(lot), fact in lot), (False, None, 1, True))
        for no_fact in (("counts", (2, 3), (0,)), ("counts", (3, 2), ()), ("counts",), (), "counts", None, 0):
            self.assertIs(no_fact in lot, False)
        self.assertEqual(lot.put("apart", (), (0,)), 1)
        self.assertEqual((lot.closed, lot.outcome, len(lot)), (True, "apart", 2))
        self.assertEqual(lot.facts, [fact, ("apart", (), (0,))])
        self.assertIs(("apart", (), (0,)) in lot, True)

    def test_facts_behind_a_verdict(self):
        # A verdict does not close the lot as long as another fact is unused; and no fact uses a verdict.
        lot = Lot(FIRST, Standing.gathered(NET, 3, 0))
        facts = [("counts", (2, 3), ()), ("unlike", (0, 1, 2), ()), ("apart", (), (0,)), ("apart", (), (1,)),
                 ("marks", ((0, 1), ()), ()), ("dead", (2,), (4,)), ("counts", (2, 3), ()), ("apart", (), (6,))]
        for at, fact in enumerate(facts):
            self.assertEqual(lot.put(*fact), at)
            self.assertEqual((lot.closed, lot.outcome, lot.facts), (False, None, facts[:at + 1]))
            self.fails(lambda: lot.put("rope", (0,), (at,)), WrongFact, "rope")
        self.assertFalse(is_closed(facts))

    def test_the_last_unused_fact(self):
        # The facts 0 and 2 stand in one chain; the lot is closed as soon as the verdict uses its end.
        facts = [("marks", ((0, 1), ()), ()), ("dead", (2,), (0,)), ("dead", (3,), (0,)), ("still", (2,), (1, 2)),
                 ("apart", (), (3,))]
        lot = Lot(FIRST, TURNED)
        for fact in facts:
            self.assertIs(lot.closed, False)
            lot.put(*fact)
        self.assertEqual((lot.closed, lot.outcome), (True, "apart"))
        more = Lot(FIRST, TURNED)
        for fact in facts[:2] + [("dead", (4,), (0,)), facts[2], ("still", (2,), (1, 3)), ("apart", (), (4,))]:
            more.put(*fact)
        self.assertEqual((more.closed, more.outcome, len(more)), (False, None, 6))

    def test_order_of_errors(self):
        lot = Lot(FIRST, SECOND)
        lot.put("totals", (2, 0), ())
        for word in ("", "Totals", "verdict", "closed", "facts", "check"):
            self.fails(lambda: lot.put(word, (), (9,)), NoFact, word)
        for uses, place in (((1,), 0), ((-1,), 0), ((0, 0, 1), 2), ((0, FAR, -1), 1), ((0, -FAR), 1)):
            for word in WORDS:
                content = content_by(word, NET, place_of(FIRST), place_of(SECOND), [], Random(1))
                self.fails(lambda: lot.put(word, content, uses), BadUse, place)
        self.fails(lambda: lot.put("book", (0, 0), ()), WrongFact, "book")
        self.assertEqual((lot.facts, lot.closed, lot.outcome), ([("totals", (2, 0), ())], False, None))

    def test_a_closed_lot_takes_nothing(self):
        for second in (SECOND, TURNED, Standing.gathered(NET, 3, 0)):
            lot = closed_lot(FIRST, second)
            facts = lot.facts
            for fact in (("totals", (2, 0), ()), ("nothing", (), ()), ("book", (9, 9), (-1,)), facts[-1], facts[0]):
                self.fails(lambda: lot.put(*fact), LotClosed)
            self.assertEqual((lot.facts, lot.closed), (facts, True))

    def test_returned_lists_are_new(self):
        lot = closed_lot(FIRST, SECOND)
        kept = lot.facts
        lot.facts.append("spoilt")
        lot.facts.clear()
        self.assertEqual((lot.facts, lot.closed), (kept, True))

    def test_the_same_fact_more_than_once(self):
        lot = Lot(FIRST, SECOND)
        for at in range(5):
            self.assertEqual(lot.put("totals", (2, 0), ()), at)
        self.assertEqual(lot.facts, [("totals", (2, 0), ())] * 5)

    def test_other_nets(self):
        for net in (Net.row(5), Net.row(3), great_net()):
            other = Standing.gathered(net, 2, 0)
            self.fails(lambda: Lot(FIRST, other), OtherNet)
            self.fails(lambda: Lot.replayed(FIRST, other, [("nothing", (), ())]), OtherNet)
            self.fails(lambda: Lot.replayed(FIRST, other, []), OtherNet)
            self.fails(lambda: closed_lot(FIRST, other), OtherNet)


class Replayed(Case):

    def test_facts_put_again(self):
        for second in (SECOND, TURNED, Standing.gathered(NET, 3, 0)):
            facts = closed_lot(FIRST, second).facts
            for many in range(len(facts) + 1):
                lot = Lot.replayed(FIRST, second, facts[:many])
                self.assertIsInstance(lot, Lot)
                self.assertEqual((lot.facts, lot.first, lot.second), (facts[:many], FIRST, second))
                self.assertIs(lot.closed, many == len(facts))

    def test_bad_lots(self):
        facts = closed_lot(FIRST, SECOND).facts
        kept = list(facts)
        for at in range(len(facts)):
            for bad, error in ((("nothing", (), ()), NoFact), (("totals", (9, 9), ()), WrongFact),
                               (("totals", (2, 0), (at,)), BadUse)):
                self.check(SECOND, facts[:at] + [bad] + facts[at:], at, error)
        self.check(SECOND, facts + facts[:1], len(facts), LotClosed)
        self.check(SECOND, facts + [("nothing", (), ())], len(facts), LotClosed)
        self.assertEqual(facts, kept)

    def check(self, second, facts, place, error):
        with self.assertRaises(BadLot) as caught:
            Lot.replayed(FIRST, second, facts)
        self.assertEqual(caught.exception.place, place)
        self.assertIs(type(caught.exception.__cause__), error)


class ClosedLots(Case):

    def check(self, first, second, alike):
        lot = closed_lot(first, second)
        self.assertEqual((lot.closed, lot.outcome), (True, "alike" if alike else "apart"))
        self.check_facts(first, second, lot)

    def check_facts(self, first, second, lot):
        facts = lot.facts
        self.assertEqual((lot.first, lot.second, len(lot)), (first, second, len(facts)))
        one, two = place_of(first), place_of(second)
        for at, fact in enumerate(facts):
            self.assertIsInstance(fact, tuple)
            self.assertEqual(fact, frozen(fact))
            self.assertTrue(all(0 <= use < at for use in fact[2]))
            self.assertTrue(right(first.net, one, two, facts, fact))
            self.assertIs(fact in lot, True)
        self.assertTrue(is_closed(facts))
        self.assertEqual(Lot.replayed(first, second, facts).outcome, lot.outcome)

    def test_small_nets(self):
        rng = Random(66)
        outcomes = set()
        for net in SMALL_NETS + CIRCLES:
            for totals in ((0, 0), (1, 0), (0, 1), (1, 1), (2, 1)):
                places = places_with(net, *totals)
                for _ in range(3):
                    one = rng.choice(places)
                    kind = steps_from(net, one)
                    for two in (rng.choice(places), rng.choice(sorted(kind)), some_place(net, 2, 1, rng)):
                        first, second = standing_of(net, one), standing_of(net, two)
                        self.check(first, second, two in kind)
                        outcomes.add((difference_of(first, second) or ("alike",))[0])
        self.assertEqual(outcomes, {"alike", "reds", "book", "rope"})

    def test_great_nets(self):
        rng = Random(67)
        for net in GREAT + [Net(24, [(0, 1)] * 17 + [(k, k + 1) for k in range(23)])]:
            for totals in ((15, 15), (1, 0), (0, 0), (30, 0)):
                one = some_place(net, *totals, rng)
                two = some_row(net, one, 400, rng)[1][-1]
                self.check(standing_of(net, one), standing_of(net, two), True)
                other = standing_of(net, some_place(net, *totals, rng))
                self.check(standing_of(net, one), other, difference_of(standing_of(net, one), other) is None)

    def test_a_circle_that_no_guest_reaches(self):
        self.check(FIRST, SECOND, True)
        self.check(FIRST, TURNED, False)
        self.assertEqual([fact[0] for fact in closed_lot(FIRST, TURNED).facts],
                         ["marks", "dead", "dead", "still", "apart"])
        empty = [Standing(Net.ring(3), [0] * 3, [0] * 3, [car] * 3) for car in (0, 1)]
        self.check(empty[0], empty[0], True)
        self.check(empty[0], empty[1], False)

    def test_least(self):
        rng = Random(68)
        for net in TREES + RINGS + [great_tree(), Net.ring(24)]:
            for totals in ((0, 0), (1, 0), (1, 1), (2, 3)):
                one = some_place(net, *totals, rng)
                two = some_row(net, one, 60, rng)[1][-1]
                first, second = standing_of(net, one), standing_of(net, two)
                lot = closed_lot(first, second, least=True)
                self.assertEqual((lot.closed, lot.outcome), (True, "least"))
                self.check_facts(first, second, lot)
                self.assertEqual(lot.facts[-1][1], (len(plan_of(first, second)),))
                if net.stations < 6:
                    self.assertEqual(lot.facts[-1][1], (steps_from(net, one)[two],))
                self.assertEqual(closed_lot(first, second, least=False).outcome, "alike")

    def test_errors_of_least(self):
        other = Standing.gathered(Net.row(2), 1, 0)
        for net in OTHERS + CIRCLES + [great_net()]:
            here = Standing.gathered(net, 1, 0)
            for there in (here, Standing.gathered(net, 2, 0), other):
                self.fails(lambda: closed_lot(here, there, least=True), NotExact)
            self.fails(lambda: closed_lot(here, other), OtherNet)
        for net in (Net.row(3), Net.ring(3), Net(1, []), great_tree()):
            here = Standing.gathered(net, 1, 0)
            self.fails(lambda: closed_lot(here, other, least=True), OtherNet)
            self.fails(lambda: closed_lot(here, Standing.gathered(great_net(), 1, 0), least=True), OtherNet)
            there = Standing.gathered(net, 2, 0)
            self.fails(lambda: closed_lot(here, there, least=True), Apart, ("reds", 1, 2))
        empty = [Standing(Net.ring(3), [0] * 3, [0] * 3, [car] * 3) for car in (0, 1)]
        self.fails(lambda: closed_lot(*empty, least=True), Apart, ("rope", 0))

    def test_what_a_closed_lot_shows(self):
        # Any closed lot tells the truth, whichever facts it has: none can be closed the other way.
        rng = Random(69)
        for net in SMALL_NETS[1:8] + CIRCLES[:1]:
            one = some_place(net, 1, 1, rng)
            for two in (some_place(net, 1, 1, rng), some_row(net, one, 5, rng)[1][-1]):
                first, second = standing_of(net, one), standing_of(net, two)
                true = "alike" if two in steps_from(net, one) else "apart"
                lot = Lot(first, second)
                for _ in range(150):
                    facts = lot.facts
                    word = rng.choice(WORDS)
                    fact = (word, content_by(word, net, one, two, facts, rng),
                            tuple(rng.randrange(len(facts)) for _ in range(rng.randrange(3)) if facts))
                    if not lot.closed and right(net, one, two, facts, fact):
                        lot.put(*fact)
                        if fact[0] in VERDICTS:
                            self.assertEqual("apart" if fact[0] == "apart" else "alike", true)


if __name__ == "__main__":
    unittest.main()
