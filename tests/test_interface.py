"""The interface: every name stands in its file, and every method in its class."""

import importlib
import inspect
import unittest

from twinrope.blind import Blind
from twinrope.crowds import Crowd
from twinrope.desk import Desk
from twinrope.houses import House
from twinrope.lots import Lot, closed_lot
from twinrope.nets import Net
from twinrope.standings import Standing
from twinrope.together import Together
from twinrope.trips import Trip

FUNCTIONS = {
    "standings": {"standing_count": "net reds blues", "every_standing": "net reds blues"},
    "rides": {"can_ride": "standing rope colour", "after_ride": "standing rope colour", "rides_from": "standing",
              "walk": "standing rides", "end_of": "standing rides back"},
    "texts": {"write_standing": "standing", "read_standing": "text", "write_trip": "rides", "read_trip": "text"},
    "books": {"books_of": "standing"},
    "arrows": {"arrows_of": "standing", "red_reach": "standing", "blue_reach": "standing", "can_meet": "standing",
               "meeting_way": "standing", "meet_row": "standing", "dead_stations": "standing",
               "live_ropes": "standing", "live_parts": "standing"},
    "kinship": {"difference_of": "first second", "are_alike": "first second"},
    "marks": {"marks_hold": "standing marks", "marks_of": "standing", "dead_by": "standing marks station",
              "still_by": "standing marks rope", "border_holds": "standing marks stations"},
    "visits": {"visit_row": "standing station", "run_rope": "standing rope"},
    "trees": {"beyond": "net home rope", "toward": "net home", "way_between": "net start end"},
    "least": {"crossings_of": "first second", "least_number": "first second", "useful_rides": "standing goal",
              "least_row": "first second"},
    "runs": {"runs_between": "first second", "sure_ropes": "first second", "colours_of_runs": "first second rope",
             "trip_fare": "red_fares blue_fares rides", "least_fare": "first second red_fares blue_fares"},
    "homeward": {"homeward_rides": "standing home", "homeward_row": "standing home",
                 "homeward_standing": "standing home", "numbers_of": "standing home",
                 "from_numbers": "net home numbers reds blues", "numbers_of_books": "net home books",
                 "standing_of_books": "net books reds blues", "rehome": "net home numbers reds blues new_home"},
    "counts": {"choose": "n k", "kind_count": "ropes reds blues", "meeting_count": "ropes reds blues"},
    "ranks": {"rank_of": "numbers reds blues", "numbers_at": "rank ropes reds blues",
              "next_numbers": "numbers reds blues", "kind_rank": "standing home",
              "kind_at": "net home rank reds blues", "every_kind": "net home reds blues"},
    "sizes": {"size_by_cars": "standing cars", "kind_size": "standing", "members": "standing",
              "most_at": "standing station", "gather_row": "standing station", "busiest": "standing"},
    "slopes": {"slopes_of": "net", "slope_tree": "net", "slope_homeward": "standing home",
               "slope_numbers": "standing home", "slope_rides": "standing home",
               "slope_kind_count": "widths reds blues"},
    "lattice": {"profile_of": "standing", "standing_at": "standing profile", "lower": "first second",
                "upper": "first second", "median": "first second third", "leftmost": "standing",
                "rightmost": "standing"},
    "between": {"is_between": "first middle second", "between_count": "first second", "every_between": "first second",
                "diameter": "standing"},
    "rings": {"ring_order": "net", "ring_bill": "first second turn", "ring_cost": "first second turn",
              "turn_of": "standing rides", "best_turns": "first second", "ring_number": "first second",
              "ring_useful": "standing goal", "ring_row": "first second"},
    "bills": {"bill_of": "standing rides"},
    "floors": {"floor_number": "first second prices", "floor_paper": "first second prices",
               "paper_holds": "first second bill levels prices"},
    "plans": {"plan_of": "first second", "range_of_rows": "first second"},
    "verdicts": {"verdict_of": "first second", "verdict_holds": "first second claim",
                 "can_take": "first second count"},
    "layers": {"layers_of": "standing", "twin_number": "first second"},
    "crowds": {"ride_named": "crowd rope name", "walk_named": "crowd rides"},
    "companions": {"named_difference": "first second", "companions": "crowd name", "named_count": "crowd"},
    "exchanges": {"exchange_row": "crowd one other", "border_of": "crowd name", "named_plan": "first second"},
    "blind": {"blind_of": "standing", "blind_difference": "first second", "blind_number": "first second",
              "blind_row": "first second", "blind_plan": "first second"},
    "together": {"together_difference": "first second", "turn_one": "standing rope", "together_row": "first second"},
    "parted": {"parted": "one other net reds blues"},
    "heard": {"heard_count": "standing ropes", "heard_first": "standing ropes", "heard_ends": "standing ropes",
              "heard_balance": "standing ropes", "heard_reds": "standing ropes station",
              "heard_to": "standing ropes goal"},
    "logs": {"log_holds": "first second rides", "odd_ropes": "first second rides", "deletes": "first second rides",
             "mends": "first second rides", "inserts": "first second rides"},
    "lots": {"closed_lot": "first second least"},
    "tables": {"table_of": "standing", "kind_table": "ropes most"},
}
CLASSES = {
    "nets": {"Net": "row ring star ends other_end ropes_at is_tree is_ring is_row __eq__ __repr__"},
    "standings": {"Standing": "gathered red_total blue_total key red_car blue_car red_cars_at __eq__ __invert__"},
    "trips": {"Trip": "reduced tally __add__ __invert__ __eq__ __len__ __getitem__ __iter__"},
    "books": {"Books": "total __add__ __sub__ __neg__ __eq__ __len__ __getitem__ __bool__ __iter__"},
    "marks": {"Marks": "within __eq__ __and__"},
    "lattice": {"Profile": "is_below __eq__ __and__ __or__"},
    "bills": {"Bill": "cost leads __add__ __sub__ __neg__ __eq__"},
    "crowds": {"Crowd": "names place_of colour_of standing __eq__ __len__ __contains__"},
    "houses": {"House": "words steps step_to walk_steps same_kind kind_total groups"},
    "blind": {"Blind": "words steps step_to same_kind kind_total groups"},
    "together": {"Together": "words steps step_to same_kind kind_total"},
    "lots": {"Lot": "closed facts outcome put replayed __len__ __contains__"},
    "desk": {"Desk": "now done goal home take undo redo attempt mark back_to set_goal move_home left rank log redo_list "
                     "marks runs_of probe story advice finish"},
}
DEEDS = {"take": "rope colour", "undo": "", "redo": "", "attempt": "rides", "mark": "name", "back_to": "name",
         "set_goal": "goal", "move_home": "home", "left": "", "rank": "", "log": "", "redo_list": "", "marks": "",
         "runs_of": "rope", "probe": "rides", "story": "", "advice": "", "finish": "", "__init__": "standing"}
HOUSE = {"words": "", "steps": "standing", "step_to": "standing rope word", "walk_steps": "standing steps",
         "same_kind": "first second", "kind_total": "net reds blues", "groups": "net reds blues"}


class Interface(unittest.TestCase):

    def test_functions(self):
        for file, names in FUNCTIONS.items():
            module = importlib.import_module(f"twinrope.{file}")
            for name, parameters in names.items():
                function = getattr(module, name)
                self.assertEqual(function.__module__, f"twinrope.{file}")
                self.assertEqual(list(inspect.signature(function).parameters), parameters.split())

    def test_prices_are_passed_by_name(self):
        for name in ("floor_number", "floor_paper", "paper_holds"):
            spec = inspect.getfullargspec(getattr(importlib.import_module("twinrope.floors"), name))
            self.assertEqual((spec.kwonlyargs, spec.kwonlydefaults), (["prices"], {"prices": None}))

    def test_least_is_passed_by_name(self):
        spec = inspect.getfullargspec(closed_lot)
        self.assertEqual((spec.kwonlyargs, spec.kwonlydefaults), (["least"], {"least": False}))

    def test_classes(self):
        for file, names in CLASSES.items():
            module = importlib.import_module(f"twinrope.{file}")
            for name, methods in names.items():
                shape = getattr(module, name)
                self.assertEqual(shape.__module__, f"twinrope.{file}")
                for method in methods.split():
                    self.assertIn(method, vars(shape))

    def test_properties_and_class_methods(self):
        for name in ("is_tree", "is_ring", "is_row"):
            self.assertIsInstance(vars(Net)[name], property)
        for name in ("red_total", "blue_total"):
            self.assertIsInstance(vars(Standing)[name], property)
        for name in ("closed", "facts", "outcome"):
            self.assertIsInstance(vars(Lot)[name], property)
        for name, setter in (("now", False), ("done", False), ("goal", True), ("home", True)):
            self.assertIsInstance(vars(Desk)[name], property)
            self.assertEqual(vars(Desk)[name].fset is not None, setter)
        for shape, name in ((Lot, "replayed"), (Net, "row"), (Net, "ring"), (Net, "star"), (Standing, "gathered")):
            self.assertIsInstance(vars(shape)[name], classmethod)

    def test_a_trip_has_a_truth(self):
        self.assertEqual([bool(Trip([])), bool(Trip([(0, "red")]))], [False, True])

    def test_houses(self):
        words = {"House": "coloured", "Blind": "blind", "Together": "together"}
        for shape in (House, Blind, Together):
            self.assertEqual(vars(shape)["WORD"], words[shape.__name__])
            self.assertTrue(issubclass(shape, House))
            self.assertIsInstance(shape().words(), tuple)

    def test_parameters_of_methods(self):
        for shape, names in ((Crowd, {"__init__": "net cars reds blues", "names": "colour", "place_of": "name",
                                      "colour_of": "name", "standing": ""}), (House, HOUSE), (Blind, HOUSE),
                             (Together, HOUSE), (Desk, DEEDS),
                             (Lot, {"__init__": "first second", "put": "word content uses"})):
            for method, parameters in names.items():
                found = list(inspect.signature(getattr(shape, method)).parameters)[1:]
                self.assertEqual(found, parameters.split())

    def test_generators(self):
        for file, name in (("standings", "every_standing"), ("ranks", "every_kind"), ("sizes", "members"),
                           ("between", "every_between")):
            self.assertTrue(inspect.isgeneratorfunction(getattr(importlib.import_module(f"twinrope.{file}"), name)))
        self.assertTrue(inspect.isgeneratorfunction(Desk.story))


if __name__ == "__main__":
    unittest.main()
