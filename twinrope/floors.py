"""The least cost of a bill, and levels that certify it (points 46 and 47)."""

from twinrope.bills import Bill, less, prices_of
from twinrope.checks import check_same_net
from twinrope.kinship import check_alike


def floor_number(first, second, *, prices=None):
    check_same_net(first, second)
    each = prices_of(first.net, prices)
    check_alike(first, second)
    return least_bill(first, second, each).cost(prices=each)


def floor_paper(first, second, *, prices=None):
    check_same_net(first, second)
    each = prices_of(first.net, prices)
    check_alike(first, second)
    bill = least_bill(first, second, each)
    far, _ = cheapest_ways(0, priced_steps(bill, each))
    return bill, [far[station] for station in range(first.net.stations)]


def paper_holds(first, second, bill, levels, *, prices=None):
    check_same_net(first, second)
    each = prices_of(first.net, prices)
    if not bill.leads(first, second) or len(levels) != first.net.stations:
        return False
    return all([levels[end] - levels[start] <= cost for start, end, rope, change, cost in priced_steps(bill, each)])


def least_bill(first, second, prices):
    """A bill of the least cost that leads from the first standing to the second, which is alike.

    It begins with the cheapest crossings for the cars, and takes one red guest after another by a cheapest way.
    """
    net = first.net
    turns = less(second.cars, first.cars)
    bill = Bill(net, [0] * len(turns), [-turn for turn in turns])
    left = less(first.reds, second.reds)
    for start in range(net.stations):
        while left[start] > 0:
            _, came = cheapest_ways(start, priced_steps(bill, prices))
            goal = min([station for station in range(net.stations) if left[station] < 0])
            changes = changes_on_way(net, came, start, goal)
            bill = bill + Bill(net, changes, changes)
            left[start] -= 1
            left[goal] += 1
    return bill


def priced_steps(bill, prices):
    """The tuples (start, end, rope, change, cost): what it costs to change both crossings of the rope by 1 or -1."""
    steps = []
    for rope, (start, end) in enumerate(bill.net.ropes):
        reds = bill.reds[rope]
        blues = bill.blues[rope]
        now = abs(reds) + abs(blues)
        steps.append((start, end, rope, 1, prices[rope] * (abs(reds + 1) + abs(blues + 1) - now)))
        steps.append((end, start, rope, -1, prices[rope] * (abs(reds - 1) + abs(blues - 1) - now)))
    return steps


def cheapest_ways(start, steps):
    """How much the cheapest way to each station costs, and its last step; no circle costs less than 0."""
    far = {start: 0}
    came = {}
    changed = True
    while changed:
        changed = False
        for step in steps:
            begin, end, rope, change, cost = step
            if begin in far and (end not in far or far[begin] + cost < far[end]):
                far[end] = far[begin] + cost
                came[end] = step
                changed = True
    return far, came


def changes_on_way(net, came, start, goal):
    """The change of the crossings of each rope on the way from start to goal."""
    changes = [0] * len(net.ropes)
    station = goal
    while station != start:
        begin, end, rope, change, cost = came[station]
        changes[rope] = change
        station = begin
    return changes
