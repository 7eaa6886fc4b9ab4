"""Houses of rules for the steps that change a standing (point 57)."""

from twinrope.checks import COLOURS, check_rope, check_tree
from twinrope.counts import kind_count
from twinrope.errors import NoColour, NotPossible, TooMany
from twinrope.kinship import are_alike
from twinrope.rides import can_ride, ridden, rides_from
from twinrope.standings import every_standing, standing_count, standing_of_key

MOST_GROUPED = 400


class House:
    """The coloured house: its steps are the rides."""

    WORD = "coloured"

    def words(self):
        return COLOURS

    def steps(self, standing):
        return rides_from(standing)

    def step_to(self, standing, rope, word):
        check_step(standing.net, rope, word, self.words())
        if not can_ride(standing, rope, word):
            raise NotPossible(0, rope, word)
        return ridden(standing, rope, word)

    def walk_steps(self, standing, steps):
        for rope, word in steps:
            check_step(standing.net, rope, word, self.words())
        places = [standing]
        for at, (rope, word) in enumerate(steps):
            try:
                after = self.step_to(places[-1], rope, word)
            except NotPossible:
                raise NotPossible(at, rope, word) from None
            places.append(after)
        return places

    def same_kind(self, first, second):
        return are_alike(first, second)

    def kind_total(self, net, reds, blues):
        check_tree(net)
        return kind_count(len(net.ropes), reds, blues)

    def groups(self, net, reds, blues):
        if standing_count(net, reds, blues) > MOST_GROUPED:
            raise TooMany(MOST_GROUPED)
        kinds = []
        seen = {}
        for standing in every_standing(net, reds, blues):
            if standing.key() not in seen:
                keys = self.kind_keys(standing)
                seen.update({key: True for key in keys})
                kinds.append([standing_of_key(net, key) for key in keys])
        return kinds

    def kind_keys(self, standing):
        """The keys of all standings of the kind in ascending order, found step by step."""
        found = {standing.key(): True}
        edge = [standing]
        while edge:
            here = edge.pop()
            for rope, word in self.steps(here):
                after = self.step_to(here, rope, word)
                if after.key() not in found:
                    found[after.key()] = True
                    edge.append(after)
        return sorted(list(found))


def check_step(net, rope, word, words):
    check_rope(net, rope)
    if word not in words:
        raise NoColour(word)
