"""What the tests share: the errors with their attributes, and a test case that looks at them."""

import unittest

from twinrope import errors

ATTRIBUTES = {
    "BadNet": ["place"], "BadCount": ["value"], "TooMany": ["limit"], "NotConnected": ["station"],
    "NotThere": ["rope", "station"], "NoStation": ["number"], "NoRope": ["number"], "NoColour": ["word"],
    "OtherNet": [], "NotATree": [], "NotARing": [], "NotARow": [], "NotExact": [], "NotSlopes": [],
    "BadStanding": ["part", "place"], "NoRide": ["rope", "colour"], "BrokenRow": ["step", "rope", "colour"],
    "BadRide": ["place"], "NoStep": ["number"], "BadText": ["line"], "BadWord": ["place"],
    "OtherSize": ["first", "second"], "NeverMeet": [], "CanMeet": ["start"], "Dead": ["station"],
    "Still": ["rope"], "Apart": ["why"], "BadFare": ["place"], "BadNumbers": ["size"],
    "Short": ["colour", "missing"], "BadRank": ["value"], "BadWidth": ["place"], "NoProfile": [],
    "BadBill": ["colour"], "BadName": ["name"], "NoName": ["name"], "NotHere": ["rope", "name"],
    "BrokenNames": ["step", "rope", "name"], "NoExchange": ["one", "other"], "NamesApart": ["why"],
    "HasBlues": ["station"], "NotPossible": ["place", "rope", "word"], "BlindApart": ["why"],
    "NoTurn": ["rope"], "TogetherApart": ["why"], "NoFit": ["step"], "LotClosed": [], "NoFact": ["word"],
    "BadUse": ["place"], "WrongFact": ["word"], "BadLot": ["place"], "NothingToUndo": [],
    "NothingToRedo": [], "NoMark": ["name"], "NoGoal": [],
}
FAR = 10 ** 17


class Case(unittest.TestCase):

    def fails(self, call, error, *values):
        """The call raises exactly this error, with these values of its attributes."""
        with self.assertRaises(errors.RopeError) as caught:
            call()
        self.assertEqual(type(caught.exception).__name__, error.__name__)
        names = ATTRIBUTES[error.__name__]
        self.assertEqual(len(values), len(names))
        self.assertEqual([getattr(caught.exception, name) for name in names], list(values))
