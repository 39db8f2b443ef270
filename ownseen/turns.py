"""Turns: two operations from a state, both ways round, and whether the one way round can stand for the other."""

from ownseen.plays import led

IN_PLACE = "in place"
LAID_BY = "laid by"


def turn_at(kind, state, pair):
    """The row (state, pair, sound, failing) of two operations, (new, held) in place, (first, second) laid by.

    Sound is the state behind the second one and then the first one, failing that behind
    them as they stand in the pair; None where they cannot be played.
    """
    first, second = pair
    return (state, pair, led(kind, state, [second, first]), led(kind, state, [first, second]))


def pairs_from(kind, way, state):
    """The pairs of operations that a table must tell of in the state.

    In place held, new can be played from it; laid by both are possible from it.
    """
    offers = kind.offers
    if way == IN_PLACE:
        return [(new, held) for held in offers[state] for new in offers[led(kind, state, [held])]]
    return [(first, second) for first in offers[state] for second in offers[state]]


def turns_of(kind, way, places):
    """The rows of all such pairs of operations, from each of these states."""
    return [turn_at(kind, state, pair) for state in places for pair in pairs_from(kind, way, state)]


def rounds_of(way, pair):
    """The pair of operations, laid by both ways round."""
    return (pair,) if way == IN_PLACE else (pair, pair[::-1])


def turns_with(kind, way, places, pair):
    """The rows of this pair of operations, laid by both ways round, from those of the states where it is looked at."""
    return [
        turn_at(kind, state, told)
        for state in places for told in rounds_of(way, pair) if told in pairs_from(kind, way, state)
    ]


def carried_from(kind, pairs):
    """The pairs of states, and all to which an operation leads from both of one; ascending, each once."""
    found = {pair: True for pair in pairs}
    queue = list(found)
    at = 0
    while at < len(queue):
        one, other = queue[at]
        at += 1
        for work in kind.offers[one]:
            to = (led(kind, one, [work]), led(kind, other, [work]))
            if to[1] is not None and to not in found:
                found[to] = True
                queue.append(to)
    return sorted(queue)
