"""Gaps: what can be played from one of two states, and not from the other; of many pairs of states at once."""

from ownseen.plays import led
from ownseen.turns import carried_from


def ends_of(kind, pairs):
    """For each of the pairs the least operation that is possible from the one alone, if there is one."""
    ends = {}
    for one, other in pairs:
        missing = [work for work in kind.offers[one] if led(kind, other, [work]) is None]
        if missing:
            ends[(one, other)] = missing[0]
    return ends


def steps_into(kind, pairs):
    """For each pair of states those of the pairs, with the operation, that lead to it."""
    into = {}
    for one, other in pairs:
        for work in kind.offers[one]:
            to = (led(kind, one, [work]), led(kind, other, [work]))
            into.setdefault(to, []).append(((one, other), work))
    return into


def gap_steps(kind, pairs):
    """For each pair with a gap, of these pairs and all to which they lead, the first operation of its least gap.

    The least one is the shortest, and of such the least. Shorter ones are found first: a pair
    that is met at last has just those met then behind its next operation, and the least of these is taken.
    """
    carried = carried_from(kind, pairs)
    found = ends_of(kind, carried)
    into = steps_into(kind, carried)
    latest = list(found)
    while latest:
        fresh = {}
        for pair in latest:
            for ahead, work in into.get(pair, ()):
                if ahead not in found:
                    fresh[ahead] = min(fresh.get(ahead, work), work)
        found.update(fresh)
        latest = list(fresh)
    return found


def gap_of(kind, steps, one, other):
    """The least gap of a pair that has one, by the first operations of the gaps; () where other is None."""
    gap = []
    while other is not None:
        work = steps[(one, other)]
        gap.append(work)
        one, other = led(kind, one, [work]), led(kind, other, [work])
    return tuple(gap)
