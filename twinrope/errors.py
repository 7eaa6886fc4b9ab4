"""Every error of the package (point 6)."""


class RopeError(ValueError):
    """The base of all errors of the package."""


class BadNet(RopeError):
    def __init__(self, place):
        super().__init__(f"the net is bad at {place}")
        self.place = place


class BadCount(RopeError):
    def __init__(self, value):
        super().__init__(f"{value} is not a count that can be used here")
        self.value = value


class TooMany(RopeError):
    def __init__(self, limit):
        super().__init__(f"there are more than {limit}")
        self.limit = limit


class NotConnected(RopeError):
    def __init__(self, station):
        super().__init__(f"no ropes lead from station 0 to station {station}")
        self.station = station


class NotThere(RopeError):
    def __init__(self, rope, station):
        super().__init__(f"rope {rope} does not end at station {station}")
        self.rope = rope
        self.station = station


class NoStation(RopeError):
    def __init__(self, number):
        super().__init__(f"there is no station {number}")
        self.number = number


class NoRope(RopeError):
    def __init__(self, number):
        super().__init__(f"there is no rope {number}")
        self.number = number


class NoColour(RopeError):
    def __init__(self, word):
        super().__init__(f"{word!r} is no colour")
        self.word = word


class OtherNet(RopeError):
    """The nets are not equal."""


class NotATree(RopeError):
    """The net is not a tree."""


class NotARing(RopeError):
    """The net is not a ring."""


class NotARow(RopeError):
    """The net is not a row."""


class NotExact(RopeError):
    """The net is neither a tree nor a ring."""


class NotSlopes(RopeError):
    """The slopes of the net are not a tree."""


class BadStanding(RopeError):
    def __init__(self, part, place):
        super().__init__(f"the {part} of the standing are bad at {place}")
        self.part = part
        self.place = place


class NoRide(RopeError):
    def __init__(self, rope, colour):
        super().__init__(f"no {colour} guest can ride over rope {rope}")
        self.rope = rope
        self.colour = colour


class BrokenRow(RopeError):
    def __init__(self, step, rope, colour):
        super().__init__(f"at step {step} no {colour} guest can ride over rope {rope}")
        self.step = step
        self.rope = rope
        self.colour = colour


class BadRide(RopeError):
    def __init__(self, place):
        super().__init__(f"ride {place} is bad")
        self.place = place


class NoStep(RopeError):
    def __init__(self, number):
        super().__init__(f"there is no step {number}")
        self.number = number


class BadText(RopeError):
    def __init__(self, line):
        super().__init__(f"line {line} of the text is bad")
        self.line = line


class BadWord(RopeError):
    def __init__(self, place):
        super().__init__(f"word {place} of the text is bad")
        self.place = place


class OtherSize(RopeError):
    def __init__(self, first, second):
        super().__init__(f"the sizes {first} and {second} differ")
        self.first = first
        self.second = second


class NeverMeet(RopeError):
    """A red and a blue guest can never meet."""


class CanMeet(RopeError):
    def __init__(self, start):
        super().__init__(f"a red guest of station {start} can meet a blue guest")
        self.start = start


class Dead(RopeError):
    def __init__(self, station):
        super().__init__(f"station {station} is dead")
        self.station = station


class Still(RopeError):
    def __init__(self, rope):
        super().__init__(f"rope {rope} is not live")
        self.rope = rope


class Apart(RopeError):
    def __init__(self, why):
        super().__init__(f"the standings are not alike: {why}")
        self.why = why


class BadFare(RopeError):
    def __init__(self, place):
        super().__init__(f"the fares are bad at {place}")
        self.place = place


class BadNumbers(RopeError):
    def __init__(self, size):
        super().__init__(f"{size} numbers do not fit the net")
        self.size = size


class Short(RopeError):
    def __init__(self, colour, missing):
        super().__init__(f"{missing} {colour} guests are missing")
        self.colour = colour
        self.missing = missing


class BadRank(RopeError):
    def __init__(self, value):
        # A rank may have more digits than Python turns into text.
        super().__init__("there is no such rank")
        self.value = value


class BadWidth(RopeError):
    def __init__(self, place):
        super().__init__(f"the width at {place} is bad")
        self.place = place


class NoProfile(RopeError):
    """No standing of the kind has the profile."""


class BadBill(RopeError):
    def __init__(self, colour):
        super().__init__(f"the {colour} crossings do not fit the net")
        self.colour = colour


class BadName(RopeError):
    def __init__(self, name):
        super().__init__(f"{name!r} cannot be the name of a guest here")
        self.name = name


class NoName(RopeError):
    def __init__(self, name):
        super().__init__(f"no guest is called {name!r}")
        self.name = name


class NotHere(RopeError):
    def __init__(self, rope, name):
        super().__init__(f"{name!r} cannot ride over rope {rope}")
        self.rope = rope
        self.name = name


class BrokenNames(RopeError):
    def __init__(self, step, rope, name):
        super().__init__(f"at step {step} {name!r} cannot ride over rope {rope}")
        self.step = step
        self.rope = rope
        self.name = name


class NoExchange(RopeError):
    def __init__(self, one, other):
        super().__init__(f"{one!r} and {other!r} cannot change places")
        self.one = one
        self.other = other


class NamesApart(RopeError):
    def __init__(self, why):
        super().__init__(f"the crowds are not alike: {why}")
        self.why = why


class HasBlues(RopeError):
    def __init__(self, station):
        super().__init__(f"there are blue guests: {station}")
        self.station = station


class NotPossible(RopeError):
    def __init__(self, place, rope, word):
        super().__init__(f"step {place} over rope {rope} is not possible: {word}")
        self.place = place
        self.rope = rope
        self.word = word


class BlindApart(RopeError):
    def __init__(self, why):
        super().__init__(f"the standings are of unlike blind kinds: {why}")
        self.why = why


class NoTurn(RopeError):
    def __init__(self, rope):
        super().__init__(f"rope {rope} cannot be turned alone")
        self.rope = rope


class TogetherApart(RopeError):
    def __init__(self, why):
        super().__init__(f"the standings are of unlike kinds together: {why}")
        self.why = why


class NoFit(RopeError):
    def __init__(self, step):
        super().__init__(f"nothing fits from step {step} on")
        self.step = step


class LotClosed(RopeError):
    """The lot is closed."""


class NoFact(RopeError):
    def __init__(self, word):
        super().__init__(f"{word!r} is no word of a fact")
        self.word = word


class BadUse(RopeError):
    def __init__(self, place):
        super().__init__(f"use {place} is no earlier fact")
        self.place = place


class WrongFact(RopeError):
    def __init__(self, word):
        super().__init__(f"the fact {word!r} is not right")
        self.word = word


class BadLot(RopeError):
    def __init__(self, place):
        super().__init__(f"fact {place} cannot be put")
        self.place = place


class NothingToUndo(RopeError):
    """There is no ride to undo."""


class NothingToRedo(RopeError):
    """There is no ride to redo."""


class NoMark(RopeError):
    def __init__(self, name):
        super().__init__(f"there is no mark {name!r}")
        self.name = name


class NoGoal(RopeError):
    """There is no goal."""
