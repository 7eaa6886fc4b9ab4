"""Point 62: two houses compared."""

import unittest
from itertools import product

from case import Case
from house_oracle import blind_moves, coloured_moves, kinds_by, together_moves
from oracle import CIRCLES, OTHERS, RINGS, SMALL_NETS, TREES, great_net, place_of, places_with
from twinrope.blind import Blind
from twinrope.errors import BadCount, TooMany
from twinrope.houses import House
from twinrope.nets import Net
from twinrope.parted import parted
from twinrope.standings import Standing, every_standing, standing_count
from twinrope.together import Together

HOUSES = [House(), Blind(), Together()]
MOVES = {"coloured": coloured_moves, "blind": blind_moves, "together": together_moves}


def indexes(house, net, reds, blues):
    """For each place the index of its kind, from a search over the steps."""
    places = places_with(net, reds, blues)
    if house.WORD == "blind":
        kinds = kinds_by(blind_moves, net, reds + blues, 0)
        places = [(tuple(r + b for r, b in zip(*place[:2])), (0,) * net.stations, place[2]) for place in places]
    else:
        kinds = kinds_by(MOVES[house.WORD], net, reds, blues)
    index = {place: at for at, kind in enumerate(kinds) for place in kind}
    return [index[place] for place in places]


def searched(one, other, net, reds, blues):
    places = places_with(net, reds, blues)
    ones, others = indexes(one, net, reds, blues), indexes(other, net, reds, blues)
    for later in range(len(places)):
        for earlier in range(later):
            if (ones[earlier] == ones[later]) is not (others[earlier] == others[later]):
                return places[earlier], places[later]
    return None


class Parted(Case):

    def test_each_two_houses_against_a_search(self):
        for net in SMALL_NETS + CIRCLES:
            for reds, blues in ((0, 0), (1, 0), (0, 1), (1, 1), (2, 0), (2, 1)):
                if standing_count(net, reds, blues) <= 400:
                    standings = list(every_standing(net, reds, blues))
                    for one, other in product(HOUSES, repeat=2):
                        found = parted(one, other, net, reds, blues)
                        wanted = searched(one, other, net, reds, blues)
                        self.assertEqual(found and tuple(place_of(there) for there in found), wanted)
                        if found is not None:
                            self.assertIsInstance(found, tuple)
                            earlier, later = (standings.index(there) for there in found)
                            self.assertLess(earlier, later)

    def test_a_house_and_itself(self):
        for house, other in ((House, House), (Blind, Blind), (Together, Together)):
            self.assertIsNone(parted(house(), other(), Net.row(3), 1, 1))

    def test_when_the_houses_are_parted_on_a_tree(self):
        coloured, blind, together = HOUSES
        for net in TREES[1:]:
            for reds, blues in ((0, 0), (1, 0), (0, 1), (1, 1), (2, 0), (0, 2)):
                if standing_count(net, reds, blues) <= 400:
                    self.assertIs(parted(coloured, blind, net, reds, blues) is not None, reds + blues > 0)
                    self.assertIs(parted(coloured, together, net, reds, blues) is not None, reds > 0 and blues > 0)
        for one, other in product(HOUSES, repeat=2):
            self.assertIsNone(parted(one, other, Net(1, []), 3, 2))

    def test_four_hundred_standings(self):
        for net, reds, blues in ((Net.row(2), 19, 9), (Net.row(3), 3, 3), (Net(2, [(0, 1)] * 4), 4, 4)):
            self.assertEqual(standing_count(net, reds, blues), 400)
            for one, other in ((HOUSES[0], HOUSES[1]), (HOUSES[2], HOUSES[1]), (HOUSES[0], HOUSES[2])):
                found = parted(one, other, net, reds, blues)
                self.assertEqual(tuple(place_of(there) for there in found), searched(one, other, net, reds, blues))
        for net, reds, blues in ((Net.row(2), 11, 16), (Net.row(24), 0, 0), (great_net(), 1, 1), (Net.ring(9), 0, 0)):
            for one, other in product(HOUSES, repeat=2):
                self.fails(lambda: parted(one, other, net, reds, blues), TooMany, 400)

    def test_errors(self):
        for net in (Net.row(3), great_net()):
            for one, other in product(HOUSES, repeat=2):
                self.fails(lambda: parted(one, other, net, -1, -2), BadCount, -1)
                self.fails(lambda: parted(one, other, net, 2, -2), BadCount, -2)
                self.fails(lambda: parted(one, other, net, 15, 16), TooMany, 30)

    def test_the_pair_has_the_standings_themselves(self):
        found = parted(Blind(), House(), Net.row(2), 0, 1)
        self.assertTrue(all(isinstance(there, Standing) and there.blue_total == 1 for there in found))
        self.assertEqual(parted(Blind(), House(), Net.row(2), 0, 1), parted(House(), Blind(), Net.row(2), 0, 1))

    def test_rings_without_guests(self):
        # Then every standing is a kind of its own in each house.
        for net in RINGS + OTHERS:
            for one, other in product(HOUSES, repeat=2):
                self.assertIsNone(parted(one, other, net, 0, 0))


if __name__ == "__main__":
    unittest.main()
