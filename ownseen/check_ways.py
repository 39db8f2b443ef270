"""Whether a value is a right paper about operations that are turned round, and about tables."""

from ownseen.check_alike import are_carried
from ownseen.checks import is_lot
from ownseen.clashes import Goes, Jars, Sticks, want_operation
from ownseen.errors import BadLog
from ownseen.guards import MOST_DEALS
from ownseen.kinds import want_kind
from ownseen.logs import logged
from ownseen.own import keeps
from ownseen.plays import are_operations, led
from ownseen.tables import Enough, Lacks, rows_without, table_pairs
from ownseen.turns import IN_PLACE, LAID_BY, turns_with
from ownseen.ways import stray_in


def are_places(kind, value):
    """Whether any value is a lot of states, the first one among them, out of which no operation leads."""
    if not is_lot(value, kind.states) or kind.first not in value:
        return False
    return all([led(kind, state, [work]) in value for state in value for work in kind.offers[state]])


def are_grounds(kind, value):
    """Whether the parts of a Goes, or of an Enough, are such a lot of states, and carried pairs of states."""
    return are_places(kind, value.places) and are_carried(kind, value.pairs)


def are_among(rows, pairs):
    """Whether the states behind the two ways round of each row are among the pairs."""
    among = set(pairs)
    return all([row[2:] in among for row in rows])


def shows_goes(kind, way, value, pair):
    """Whether a Goes shows that the pair of operations can be turned round."""
    if not are_grounds(kind, value):
        return False
    return are_among(turns_with(kind, way, value.places, pair), value.pairs)


def is_sticking(kind, new, held, value):
    """Whether the parts of a Sticks are operations between which new cannot be put ahead of held."""
    before, behind = value.before, value.behind
    if not are_operations(kind, before) or not are_operations(kind, behind):
        return False
    if led(kind, kind.first, (*before, held, new, *behind)) is None:
        return False
    return led(kind, kind.first, (*before, new, held, *behind)) is None


def shows_back(kind, new, held, value):
    """Whether it is a right paper of whether new goes back over held."""
    want_kind(kind)
    want_operation(kind, new, "new")
    want_operation(kind, held, "held")
    if isinstance(value, Goes):
        return shows_goes(kind, IN_PLACE, value, (tuple(new), tuple(held)))
    return isinstance(value, Sticks) and is_sticking(kind, new, held, value)


def are_both(kind, value, pair):
    """Whether first and second of a Jars are the two operations, one way round or the other."""
    told = (value.first, value.second)
    return are_operations(kind, told) and told in (pair, pair[::-1])


def is_jarring(kind, value, pair):
    """Whether the parts of a Jars are operations between which the two cannot be put in their order."""
    first, second, behind = value.first, value.second, value.behind
    if not are_both(kind, value, pair) or not are_operations(kind, value.before) or not are_operations(kind, behind):
        return False
    state = led(kind, kind.first, value.before)
    # From no state, None, nothing is possible.
    if led(kind, state, [first]) is None or led(kind, state, [second]) is None:
        return False
    if led(kind, state, (first, second, *behind)) is not None:
        return False
    return behind == () or led(kind, state, (second, first, *behind)) is not None


def shows_beside(kind, one, other, value):
    """Whether it is a right paper of whether the two operations go beside one another."""
    want_kind(kind)
    want_operation(kind, one, "one")
    want_operation(kind, other, "other")
    pair = (tuple(one), tuple(other))
    if isinstance(value, Goes):
        return shows_goes(kind, LAID_BY, value, pair)
    return isinstance(value, Jars) and is_jarring(kind, value, pair)


def is_lacking(kind, way, pairs, log):
    """Whether any value is a log that is run with the pairs of a table, and does not keep the own rule."""
    try:
        history = logged(kind, log)
    except BadLog:
        return False
    if len(history.ended) > MOST_DEALS or stray_in(kind, way, pairs, log) is not None:
        return False
    return not keeps(history)


def shows_enough(kind, way, table, value):
    """Whether it is a right paper of whether the table is enough."""
    pairs = table_pairs(kind, way, table)
    if isinstance(value, Enough):
        if not are_grounds(kind, value):
            return False
        return are_among(rows_without(kind, way, pairs, value.places), value.pairs)
    return isinstance(value, Lacks) and is_lacking(kind, way, pairs, value.log)
