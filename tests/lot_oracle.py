"""Facts of lots, judged without the package. Places are tuples, as in the other searches."""

from oracle import arrows_at, book_of, walked, where

VERDICTS = ("alike", "least", "apart")


def right(net, one, two, facts, fact):
    """Whether the fact is right behind the facts; its uses are indexes of them."""
    word, content, uses = fact
    used = [facts[use] for use in uses]
    return RULES[word](net, one, two, content, used)


def totals(net, one, two, content, used):
    return used == [] and (sum(one[0]), sum(one[1])) == content == (sum(two[0]), sum(two[1]))


def book(net, one, two, content, used):
    station, value = content
    if used or station not in range(net.stations):
        return False
    return book_of(net, one, station) == value == book_of(net, two, station)


def marks(net, one, two, content, used):
    reds, blues = set(content[0]), set(content[1])
    arrows = arrows_at(net, one)
    return (used == [] and reds | blues <= set(range(net.stations)) and not reds & blues
            and set(where(one[0])) <= reds and set(where(one[1])) <= blues
            and all(end in reds for start, end in arrows if start in reds)
            and all(start in blues for start, end in arrows if end in blues))


def dead(net, one, two, content, used):
    return ([fact[0] for fact in used] == ["marks"] and content[0] in range(net.stations)
            and content[0] not in used[0][1][0] + used[0][1][1])


def guest(net, one, two, content, used):
    station, rides = content
    there = walked(net, one, rides)
    return used == [] and there is not None and station in where(there[0]) + where(there[1])


def still(net, one, two, content, used):
    rope = content[0]
    if rope not in range(len(net.ropes)):
        return False
    return [fact[:2] for fact in used] == [("dead", (end,)) for end in net.ropes[rope]]


def rope(net, one, two, content, used):
    number = content[0]
    if number not in range(len(net.ropes)) or len(used) != 1:
        return False
    word, about, _ = used[0]
    if word == "guest":
        return about[0] in net.ropes[number]
    return word == "still" and about == (number,) and one[2][number] == two[2][number]


def walk(net, one, two, content, used):
    return used == [] and walked(net, one, content[0]) == two


def bill(net, one, two, content, used):
    reds, blues, levels, number = content
    if used or [len(reds), len(blues), len(levels)] != [len(net.ropes)] * 2 + [net.stations]:
        return False
    for guests, crossed in ((0, reds), (1, blues)):
        for station in range(net.stations):
            out = sum(many for (start, _), many in zip(net.ropes, crossed) if start == station)
            out -= sum(many for (_, end), many in zip(net.ropes, crossed) if end == station)
            if out != one[guests][station] - two[guests][station]:
                return False
    for at, (x, y) in enumerate(zip(reds, blues)):
        start, end = (levels[station] for station in net.ropes[at])
        now = abs(x) + abs(y)
        if (x - y != two[2][at] - one[2][at] or end - start > abs(x + 1) + abs(y + 1) - now
                or start - end > abs(x - 1) + abs(y - 1) - now):
            return False
    return number == sum(map(abs, reds)) + sum(map(abs, blues))


def counts(net, one, two, content, used):
    return used == [] and content == (sum(one[0]), sum(two[0])) and sum(one[0]) != sum(two[0])


def unlike(net, one, two, content, used):
    station, a, b = content
    if used or station not in range(net.stations):
        return False
    return (a, b) == (book_of(net, one, station), book_of(net, two, station)) and a != b


def alike(net, one, two, content, used):
    heads = [("book", station) for station in range(net.stations)]
    heads += [("rope", number) for number in range(len(net.ropes))]
    return (len(used) == len(heads) + 1 and used[0][0] == "totals"
            and all(fact[0] == word and fact[1][0] == number for fact, (word, number) in zip(used[1:], heads)))


def least(net, one, two, content, used):
    return ([fact[0] for fact in used] == ["walk", "bill"] and len(used[0][1][0]) == content[0]
            and used[1][1][3] == content[0])


def apart(net, one, two, content, used):
    if len(used) != 1:
        return False
    word, about, _ = used[0]
    return word in ("counts", "unlike") or (word == "still" and one[2][about[0]] != two[2][about[0]])


RULES = {"totals": totals, "book": book, "marks": marks, "dead": dead, "guest": guest, "still": still, "rope": rope,
         "walk": walk, "bill": bill, "counts": counts, "unlike": unlike, "alike": alike, "least": least,
         "apart": apart}


def is_closed(facts):
    if not facts or facts[-1][0] not in VERDICTS:
        return False
    used = {use for fact in facts for use in fact[2]}
    return used == set(range(len(facts) - 1))
