"""Profiles on a row, and the lattice that they make of a kind (points 38 and 39)."""

from twinrope.checks import check_row, check_same_net
from twinrope.errors import NoProfile, OtherSize
from twinrope.homeward import homeward_standing
from twinrope.kinship import check_alike
from twinrope.standings import Standing


class Profile:
    """How many red and how many blue guests are above each rope of a row."""

    def __init__(self, reds, blues):
        if len(reds) != len(blues):
            raise OtherSize(len(reds), len(blues))
        self.reds = tuple(reds)
        self.blues = tuple(blues)

    def is_below(self, other):
        check_lengths(self, other)
        return is_at_most(self.reds, other.reds) and is_at_most(self.blues, other.blues)

    def __eq__(self, other):
        return isinstance(other, Profile) and self.reds == other.reds and self.blues == other.blues

    def __and__(self, other):
        check_lengths(self, other)
        reds = [min(mine, theirs) for mine, theirs in zip(self.reds, other.reds)]
        blues = [min(mine, theirs) for mine, theirs in zip(self.blues, other.blues)]
        return Profile(reds, blues)

    def __or__(self, other):
        check_lengths(self, other)
        reds = [max(mine, theirs) for mine, theirs in zip(self.reds, other.reds)]
        blues = [max(mine, theirs) for mine, theirs in zip(self.blues, other.blues)]
        return Profile(reds, blues)


def check_lengths(first, second):
    if len(first.reds) != len(second.reds):
        raise OtherSize(len(first.reds), len(second.reds))


def is_at_most(items, others):
    return all([mine <= theirs for mine, theirs in zip(items, others)])


def profile_of(standing):
    check_row(standing.net)
    return Profile(guests_above(standing.reds), guests_above(standing.blues))


def guests_above(guests):
    return [sum(guests[rope + 1:]) for rope in range(len(guests) - 1)]


def guests_between(total, above):
    """The guests at each station of a row, from those above each rope."""
    bounds = [total] + list(above) + [0]
    return [bounds[station] - bounds[station + 1] for station in range(len(above) + 1)]


def standing_at(standing, profile):
    here = profile_of(standing)
    if len(profile.reds) != len(here.reds):
        raise NoProfile()
    reds = guests_between(standing.red_total, profile.reds)
    blues = guests_between(standing.blue_total, profile.blues)
    cars = [car_with(standing, here, rope, profile.reds[rope], profile.blues[rope]) for rope in range(len(here.reds))]
    if min(reds + blues) < 0 or any([car not in (0, 1) for car in cars]):
        raise NoProfile()
    return Standing(standing.net, reds, blues, cars)


def car_with(standing, here, rope, reds, blues):
    """The item of cars with so many guests above the rope; neither 0 nor 1 if no alike standing has them.

    `here` is the profile of the standing.
    """
    return standing.cars[rope] + (reds - here.reds[rope]) - (blues - here.blues[rope])


def lower(first, second):
    check_row(first.net)
    check_alike(first, second)
    return standing_at(first, profile_of(first) & profile_of(second))


def upper(first, second):
    check_row(first.net)
    check_alike(first, second)
    return standing_at(first, profile_of(first) | profile_of(second))


def median(first, second, third):
    check_row(first.net)
    check_same_net(first, second)
    check_same_net(first, third)
    check_alike(first, second)
    check_alike(first, third)
    profiles = [profile_of(first), profile_of(second), profile_of(third)]
    reds = middles([profile.reds for profile in profiles])
    blues = middles([profile.blues for profile in profiles])
    return standing_at(first, Profile(reds, blues))


def middles(lists):
    """The middle one of the three items at each place."""
    one, two, three = lists
    return [sorted(items)[1] for items in zip(one, two, three)]


def leftmost(standing):
    check_row(standing.net)
    return homeward_standing(standing, 0)


def rightmost(standing):
    check_row(standing.net)
    return homeward_standing(standing, standing.net.stations - 1)
