"""States that can all that others can, states that are alike, and reduced kinds."""

from ownseen.guards import want_number
from ownseen.kinds import Kind, want_kind
from ownseen.papers import Denial, Paper
from ownseen.plays import led, ways_of


class Alike(Paper):
    """Pairs of states such that in each of them the other can all that the one can."""

    def __init__(self, pairs):
        super().__init__("alike", pairs)
        self.pairs = self.parts[0]


class Parts(Denial):
    """Operations that can be played from the one state and not from the other."""

    def __init__(self, operations):
        super().__init__("parts", operations)
        self.operations = self.parts[0]


def way_back(came, place):
    """The operations by which a search came to a place; came tells the last step to each."""
    way = []
    step = came[place]
    while step is not None:
        way.append(step[1])
        step = came[step[0]]
    return tuple(way[::-1])


def can_as(kind, one, other):
    """Whether other can all that one can: an Alike, or a Parts."""
    want_kind(kind)
    want_number(one, kind.states, "one")
    want_number(other, kind.states, "other")
    came = {(one, other): None}
    queue = [(one, other)]
    at = 0
    # Pairs join the queue in the order of their ways, so the first operation
    # that is missing ends the shortest list, and of such the least.
    while at < len(queue):
        pair = queue[at]
        at += 1
        for work in kind.offers[pair[0]]:
            to = (led(kind, pair[0], [work]), led(kind, pair[1], [work]))
            if to[1] is None:
                return Parts(way_back(came, pair) + (work,))
            if to not in came:
                came[to] = (pair, work)
                queue.append(to)
    return Alike(sorted(queue))


def looks_of(kind, marks):
    """For each marked state its mark, and its operations with the marks to which they lead."""
    looks = {}
    for state in marks:
        steps = [(ask, answer, marks[led(kind, state, [(ask, answer)])]) for ask, answer in kind.offers[state]]
        looks[state] = (marks[state], tuple(steps))
    return looks


def class_marks(kind, states):
    """For each of the states, of which none leads out, the mark of its class of alike ones."""
    marks = {state: 0 for state in states}
    before, many = 0, 1
    # Marks are only ever parted further: with as many as before they are the same.
    while before < many:
        looks = looks_of(kind, marks)
        numbers = {}
        for state in states:
            numbers.setdefault(looks[state], len(numbers))
        marks = {state: numbers[looks[state]] for state in states}
        before, many = many, len(numbers)
    return marks


def classes_of(kind):
    """The reachable states, parted into lots of alike ones, ascending."""
    states = sorted(ways_of(kind))
    marks = class_marks(kind, states)
    lots = {}
    for state in states:
        lots.setdefault(marks[state], []).append(state)
    return tuple(sorted([tuple(lots[mark]) for mark in lots]))


def alike_classes(kind):
    """The reachable states, parted into lots of alike ones, ascending."""
    want_kind(kind)
    return classes_of(kind)


def way_to(kind, state):
    """The shortest way to a state, of such the least, None if it is not reachable."""
    want_kind(kind)
    want_number(state, kind.states, "state")
    return ways_of(kind).get(state)


def reduced(kind):
    """The kind with one state for each class of alike reachable states."""
    want_kind(kind)
    ways = ways_of(kind)
    placed = []
    for lot in classes_of(kind):
        way = min([(len(ways[state]), ways[state]) for state in lot])
        placed.append((way, lot))
    lots = [lot for _, lot in sorted(placed)]
    numbers = {state: number for number, lot in enumerate(lots) for state in lot}
    rows = []
    for number, lot in enumerate(lots):
        for ask, answer in kind.offers[lot[0]]:
            to = led(kind, lot[0], [(ask, answer)])
            rows.append((number, ask, answer, numbers[to]))
    return Kind(kind.asks, kind.answers, len(lots), 0, rows)
