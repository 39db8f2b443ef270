"""Kinds that are made: purses, tickets, counters, chests, shelves, lines, piles, bags."""

from ownseen.errors import TooMany
from ownseen.guards import want_within
from ownseen.kinds import MOST_STATES, Kind


def named(sign, many):
    """The words of the sign with the numbers below many behind it."""
    return [f"{sign}{number}" for number in range(many)]


def purse(most, first):
    """A sum from 0 to most, to put into, to take from and to read."""
    want_within(most, 1, 8, "most")
    want_within(first, 0, most, "first")
    rows = []
    for there in range(most + 1):
        for ask, to in enumerate((there + 1, there + 2)):
            rows.append((there, ask, 0, to) if to <= most else (there, ask, 1, there))
        for ask, to in enumerate((there - 1, there - 2), 2):
            rows.append((there, ask, 0, to) if to >= 0 else (there, ask, 2, there))
        rows.append((there, 4, 3 + there, there))
    asks = ["put1", "put2", "take1", "take2", "read"]
    return Kind(asks, ["ok", "full", "short"] + named("n", most + 1), most + 1, first, rows)


def tickets(many):
    """Numbers that are given out, one behind another, then none for ever."""
    want_within(many, 1, 11, "many")
    rows = [(given, 0, given, min(given + 1, many)) for given in range(many + 1)]
    return Kind(["draw"], named("n", many) + ["none"], many + 1, 0, rows)


def counter(most):
    """A number from 0 to most that goes round, up and down."""
    want_within(most, 1, 10, "most")
    states = most + 1
    rows = []
    for there in range(states):
        rows.append((there, 0, 0, (there + 1) % states))
        rows.append((there, 1, 0, (there + most) % states))
        rows.append((there, 2, 1 + there, there))
    return Kind(["up", "down", "read"], ["ok"] + named("n", states), states, 0, rows)


def chest(items):
    """Some of so many items, each put in and taken out by itself."""
    want_within(items, 1, 4, "items")
    states = 1 << items
    bits = [1 << item for item in range(items)]
    rows = []
    for there in range(states):
        for ask, bit in enumerate(bits):
            rows.append((there, ask, 1, there) if there & bit else (there, ask, 0, there + bit))
        for ask, bit in enumerate(bits, items):
            rows.append((there, ask, 0, there - bit) if there & bit else (there, ask, 2, there))
    return Kind(named("put", items) + named("take", items), ["ok", "there", "gone"], states, 0, rows)


def shelf(worths, first):
    """A worth that is set and read."""
    want_within(worths, 2, 7, "worths")
    want_within(first, 0, worths - 1, "first")
    rows = []
    for there in range(worths):
        rows.extend([(there, worth, 0, worth) for worth in range(worths)])
        rows.append((there, worths, 1 + there, there))
    return Kind(named("set", worths) + ["read"], ["ok"] + named("n", worths), worths, first, rows)


def line(room, items):
    """Things one behind another; the one that was added first comes out."""
    return store(room, items, added_behind, front_of)


def pile(room, items):
    """Things one on another; the one that was added last comes out."""
    return store(room, items, added_behind, top_of)


def bag(room, items):
    """Things in no order; any one comes out."""
    return store(room, items, added_within, any_of)


def added_behind(things, item):
    """The things with the item as the last one."""
    return things + (item,)


def added_within(things, item):
    """The things with the item where they do not fall."""
    return tuple(sorted(things + (item,)))


def front_of(things):
    """The first thing, and what is left then."""
    return [(things[0], things[1:])]


def top_of(things):
    """The last thing, and what is left then."""
    return [(things[-1], things[:-1])]


def any_of(things):
    """Each unlike thing, ascending, and what is left without it."""
    firsts = [things.index(item) for item in sorted(set(things))]
    return [(things[at], things[:at] + things[at + 1:]) for at in firsts]


def lists_of(room, items, added):
    """All lists of things that come about by adding, shorter ones first, then ascending."""
    lists = [()]
    longest = [()]
    for _ in range(room):
        longest = sorted({added(things, item) for things in longest for item in range(items)})
        lists.extend(longest)
        if len(lists) > MOST_STATES:
            raise TooMany("states", MOST_STATES)
    return lists


def store(room, items, added, taken):
    """A kind that keeps things; added tells how one comes in, taken which ones may come out."""
    want_within(room, 1, 8, "room")
    want_within(items, 1, 3, "items")
    lists = lists_of(room, items, added)
    numbers = {things: number for number, things in enumerate(lists)}
    rows = []
    for number, things in enumerate(lists):
        for item in range(items):
            to = numbers.get(added(things, item))
            rows.append((number, item, 1, number) if to is None else (number, item, 0, to))
        if things:
            rows.extend([(number, items, 3 + item, numbers[rest]) for item, rest in taken(things)])
        else:
            rows.append((number, items, 2, number))
    answers = ["ok", "full", "empty"] + named("i", items)
    return Kind(named("add", items) + ["next"], answers, len(lists), 0, rows)
