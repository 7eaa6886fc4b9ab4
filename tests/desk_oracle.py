"""A plain model of the desk: it keeps the place at the beginning and finds everything else from the log."""

from oracle import steps_from, walked


class Refused(Exception):
    """The name of the error that the desk has to raise, with its values."""


class Model:

    def __init__(self, net, place):
        self.net, self.begin = net, place
        self.log, self.gone, self.marks = [], [], {}
        self.goal, self.home = None, 0

    @property
    def now(self):
        return walked(self.net, self.begin, self.log)

    def attempt(self, rides):
        for step in range(len(rides)):
            if walked(self.net, self.now, rides[:step + 1]) is None:
                raise Refused("BrokenRow", step, *rides[step])
        self.log = self.log + rides
        if rides:
            self.gone = []

    def take(self, rope, colour):
        if walked(self.net, self.now, [(rope, colour)]) is None:
            raise Refused("NoRide", rope, colour)
        self.attempt([(rope, colour)])

    def undo(self):
        if not self.log:
            raise Refused("NothingToUndo")
        self.gone.append(self.log[-1])
        self.log = self.log[:-1]
        for name in [name for name in self.marks if self.marks[name] > len(self.log)]:
            del self.marks[name]

    def redo(self):
        if not self.gone:
            raise Refused("NothingToRedo")
        self.log = self.log + [self.gone.pop()]

    def mark(self, name):
        self.marks[name] = len(self.log)

    def back_to(self, name):
        if name not in self.marks:
            raise Refused("NoMark", name)
        while len(self.log) > self.marks[name]:
            self.undo()

    def set_goal(self, place):
        """The caller gives only places that are alike, or None."""
        self.goal = place

    def distance(self):
        return None if self.goal is None else steps_from(self.net, self.now)[self.goal]
