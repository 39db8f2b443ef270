"""Playing operations on a kind, from state to state."""

from ownseen.checks import are_pairs, is_within
from ownseen.errors import BadNumber
from ownseen.guards import want_number
from ownseen.kinds import want_kind


def is_operation(kind, pair):
    """Whether a pair of integers is an operation of the kind, possible or not."""
    return is_within(pair[0], 0, len(kind.asks) - 1) and is_within(pair[1], 0, len(kind.answers) - 1)


def are_operations(kind, value):
    """Whether any value is a row of operations of the kind."""
    return are_pairs(value) and all([is_operation(kind, pair) for pair in value])


def led(kind, state, works):
    """The state to which right operations lead from a right state, None if nowhere."""
    for ask, answer in works:
        state = kind.nexts.get((state, ask, answer))
        if state is None:
            return None
    return state


def after(kind, state, ask, answer):
    """The state to which the operation leads, None if it is not possible."""
    want_kind(kind)
    want_number(state, kind.states, "state")
    want_number(ask, len(kind.asks), "ask")
    want_number(answer, len(kind.answers), "answer")
    return led(kind, state, [(ask, answer)])


def answers_to(kind, state, ask):
    """The answers that the ask may get in the state, ascending."""
    want_kind(kind)
    want_number(state, kind.states, "state")
    want_number(ask, len(kind.asks), "ask")
    return tuple([pair[1] for pair in kind.offers[state] if pair[0] == ask])


def played(kind, state, operations):
    """The state to which the operations lead, None if they cannot be played."""
    want_kind(kind)
    want_number(state, kind.states, "state")
    if not are_operations(kind, operations):
        raise BadNumber("operations")
    return led(kind, state, operations)


def ways_of(kind):
    """For each reachable state its shortest way, of such the least."""
    ways = {kind.first: ()}
    queue = [kind.first]
    at = 0
    # States join the queue in the order of their ways, so the first way to one is the least.
    while at < len(queue):
        state = queue[at]
        at += 1
        for pair in kind.offers[state]:
            to = led(kind, state, [pair])
            if to not in ways:
                ways[to] = ways[state] + (pair,)
                queue.append(to)
    return ways


def reachable(kind):
    """The reachable states, ascending."""
    want_kind(kind)
    return tuple(sorted(ways_of(kind)))
