"""The desk, which keeps a standing through many deeds (points 68 and 69)."""

from twinrope.checks import check_exact, check_rope, check_station
from twinrope.errors import NoGoal, NoMark, NothingToRedo, NothingToUndo
from twinrope.floors import floor_number
from twinrope.kinship import check_alike
from twinrope.least import least_row, useful_rides
from twinrope.ranks import kind_rank
from twinrope.rides import after_ride, walk
from twinrope.rings import ring_row, ring_useful


class Desk:
    """A present standing, the rides that led to it, and the rides that were undone."""

    def __init__(self, standing):
        self._now = standing
        self._rides = []
        self._undone = []
        self._lengths = {}
        self._goal = None
        self._home = 0

    @property
    def now(self):
        return self._now

    @property
    def done(self):
        return len(self._rides)

    @property
    def goal(self):
        return self._goal

    @goal.setter
    def goal(self, value):
        self.set_goal(value)

    @property
    def home(self):
        return self._home

    @home.setter
    def home(self, value):
        self.move_home(value)

    def take(self, rope, colour):
        self._now = after_ride(self._now, rope, colour)
        self._rides.append((rope, colour))
        self._undone = []

    def undo(self):
        if not self._rides:
            raise NothingToUndo()
        rope, colour = self._rides.pop()
        self._now = after_ride(self._now, rope, colour)
        self._undone.append((rope, colour))
        many = len(self._rides)
        self._lengths = {name: length for name, length in self._lengths.items() if length <= many}

    def redo(self):
        if not self._undone:
            raise NothingToRedo()
        rope, colour = self._undone.pop()
        self._now = after_ride(self._now, rope, colour)
        self._rides.append((rope, colour))

    def attempt(self, rides):
        places = walk(self._now, rides)
        if len(places) > 1:
            self._now = places[-1]
            self._rides.extend([(rope, colour) for rope, colour in rides])
            self._undone = []

    def mark(self, name):
        self._lengths[name] = len(self._rides)

    def back_to(self, name):
        if name not in self._lengths:
            raise NoMark(name)
        many = len(self._rides) - self._lengths[name]
        for _ in range(many):
            self.undo()

    def set_goal(self, goal):
        if goal is not None:
            check_alike(self._now, goal)
        self._goal = goal

    def move_home(self, home):
        check_station(self._now.net, home)
        self._home = home

    def left(self):
        if self._goal is None:
            return None
        return floor_number(self._now, self._goal)

    def rank(self):
        return kind_rank(self._now, self._home)

    def log(self):
        return list(self._rides)

    def redo_list(self):
        return list(self._undone)

    def marks(self):
        return sorted(list(self._lengths))

    def runs_of(self, rope):
        check_rope(self._now.net, rope)
        return len([other for other, colour in self._rides if other == rope])

    def probe(self, rides):
        return walk(self._now, rides)[-1]

    def story(self):
        rides = list(self._rides)
        for step, (rope, colour) in enumerate(rides):
            yield step, rope, colour

    def advice(self):
        self.check_goal()
        if self._now == self._goal:
            return None
        if self._now.net.is_tree:
            return useful_rides(self._now, self._goal)[0]
        return ring_useful(self._now, self._goal)[0]

    def finish(self):
        self.check_goal()
        if self._now.net.is_tree:
            row = least_row(self._now, self._goal)
        else:
            row = ring_row(self._now, self._goal)
        self.attempt(row)
        return row

    def check_goal(self):
        """Advice needs a net on which least rows are known, and a goal."""
        check_exact(self._now.net)
        if self._goal is None:
            raise NoGoal()
