"""Values without any list or object that could be changed later, to compare answers with earlier ones."""

from twinrope.bills import Bill
from twinrope.books import Books
from twinrope.crowds import Crowd
from twinrope.lattice import Profile
from twinrope.lots import Lot
from twinrope.marks import Marks
from twinrope.nets import Net
from twinrope.standings import Standing
from twinrope.trips import Trip


def plain(value):
    """The value without any list or object that could be changed later."""
    if isinstance(value, Net):
        return "net", value.stations, plain(value.ropes)
    if isinstance(value, Standing):
        return "standing", plain(value.net), plain(value.reds), plain(value.blues), plain(value.cars)
    if isinstance(value, Trip):
        return "trip", plain(value.rides)
    if isinstance(value, Books):
        return "books", plain(value.entries)
    if isinstance(value, Marks):
        return "marks", plain(value.red_side), plain(value.blue_side)
    if isinstance(value, Profile):
        return "profile", plain(value.reds), plain(value.blues)
    if isinstance(value, Bill):
        return "bill", plain(value.net), plain(value.reds), plain(value.blues)
    if isinstance(value, Crowd):
        return "crowd", plain(value.net), plain(value.cars), plain(value.reds), plain(value.blues)
    if isinstance(value, Lot):
        return "lot", plain(value.first), plain(value.second), plain(value.facts)
    if isinstance(value, (list, tuple)):
        return type(value).__name__, tuple(plain(item) for item in value)
    return value


def spoil(value):
    """Changes every list in the value, also inside of lists and tuples."""
    if isinstance(value, (list, tuple)):
        for item in list(value):
            spoil(item)
    if isinstance(value, list):
        value.reverse()
        value.append("spoilt")
        value.insert(0, "spoilt")
