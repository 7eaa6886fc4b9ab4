"""The books of stations, which no ride changes (point 16)."""

from twinrope.errors import NoStation, OtherSize


class Books:
    """One integer for each station."""

    def __init__(self, entries):
        self.entries = tuple(entries)

    def total(self):
        return sum(self.entries)

    def __add__(self, other):
        check_sizes(self, other)
        return Books([mine + theirs for mine, theirs in zip(self.entries, other.entries)])

    def __sub__(self, other):
        check_sizes(self, other)
        return Books([mine - theirs for mine, theirs in zip(self.entries, other.entries)])

    def __neg__(self):
        return Books([-entry for entry in self.entries])

    def __eq__(self, other):
        return isinstance(other, Books) and self.entries == other.entries

    def __len__(self):
        return len(self.entries)

    def __bool__(self):
        return any([entry != 0 for entry in self.entries])

    def __getitem__(self, at):
        if not 0 <= at < len(self.entries):
            raise NoStation(at)
        return self.entries[at]

    def __iter__(self):
        return iter(self.entries)


def check_sizes(first, second):
    if len(first.entries) != len(second.entries):
        raise OtherSize(len(first.entries), len(second.entries))


def books_of(standing):
    stations = range(standing.net.stations)
    guests = [standing.reds[station] - standing.blues[station] for station in stations]
    return Books([guests[station] - standing.red_cars_at(station) for station in stations])
