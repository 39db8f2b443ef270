"""Whether a value is a right paper about what states can."""

from ownseen.alike import Alike, Parts
from ownseen.checks import are_pairs, is_within
from ownseen.guards import want_number
from ownseen.kinds import want_kind
from ownseen.plays import are_operations, led


def shows_alike(kind, one, other, value):
    """Whether it is a right paper of whether other can all that one can."""
    want_kind(kind)
    want_number(one, kind.states, "one")
    want_number(other, kind.states, "other")
    if isinstance(value, Alike):
        return are_carried(kind, value.pairs) and (one, other) in value.pairs
    if isinstance(value, Parts):
        return shows_parting(kind, one, other, value.operations)
    return False


def are_carried(kind, pairs):
    """Whether any value has pairs of states, out of which no operation of the one of a pair leads."""
    if not are_pairs(pairs):
        return False
    if not all([is_within(state, 0, kind.states - 1) for pair in pairs for state in pair]):
        return False
    among = set(pairs)
    for pair in pairs:
        for work in kind.offers[pair[0]]:
            if (led(kind, pair[0], [work]), led(kind, pair[1], [work])) not in among:
                return False
    return True


def shows_parting(kind, one, other, works):
    """Whether they are operations that can be played from one and not from other."""
    if not are_operations(kind, works):
        return False
    return led(kind, one, works) is not None and led(kind, other, works) is None
