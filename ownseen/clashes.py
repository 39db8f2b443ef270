"""Clashes: which operations cannot be turned round, so that one must not be given beside the other."""

from ownseen.errors import BadNumber
from ownseen.gaps import gap_of, gap_steps
from ownseen.kinds import want_kind
from ownseen.papers import Denial, Paper
from ownseen.plays import are_operations, ways_of
from ownseen.turns import IN_PLACE, LAID_BY, carried_from, rounds_of, turns_of, turns_with


class Goes(Paper):
    """States, and pairs of states, that show that two operations can be turned round."""

    def __init__(self, places, pairs):
        super().__init__("goes", places, pairs)
        self.places = self.parts[0]
        self.pairs = self.parts[1]


class Sticks(Denial):
    """Operations before and behind two others that show that the new one does not go back."""

    def __init__(self, before, behind):
        super().__init__("sticks", before, behind)
        self.before = self.parts[0]
        self.behind = self.parts[1]


class Jars(Denial):
    """Operations before and behind two others that show that these do not go beside one another."""

    def __init__(self, before, first, second, behind):
        super().__init__("jars", before, first, second, behind)
        self.before = self.parts[0]
        self.first = self.parts[1]
        self.second = self.parts[2]
        self.behind = self.parts[3]


def want_operation(kind, value, part):
    """Raises BadNumber for what is no operation of the kind."""
    if not are_operations(kind, (value,)):
        raise BadNumber(part)


def behind_states(rows):
    """The pairs (sound, failing) of states of the rows, where both ways round can be played."""
    return [row[2:] for row in rows if None not in row[2:]]


def does_clash(row, steps):
    """Whether the failing way round of a row cannot all that the sound one can; steps are those of the gaps."""
    return row[3] is None or row[2:] in steps


def worst_of(kind, rows):
    """Of all (before, pair, behind) that show that a row clashes the shortest, of such the least; None without one."""
    ways = ways_of(kind)
    steps = gap_steps(kind, behind_states(rows))
    found = []
    for row in rows:
        if does_clash(row, steps):
            state, pair, sound, failing = row
            behind = gap_of(kind, steps, sound, failing)
            found.append((len(ways[state]) + len(behind), (ways[state], pair, behind)))
    return min(found)[1] if found else None


def reached_turns(kind, way, pair):
    """The rows of the pair of operations from all reachable states."""
    return turns_with(kind, way, sorted(ways_of(kind)), pair)


def goes_by(kind, rows):
    """The Goes of rows that do not clash."""
    return Goes(sorted(ways_of(kind)), carried_from(kind, behind_states(rows)))


def goes_back(kind, new, held):
    """The Goes if new goes back over held, otherwise the least Sticks."""
    want_kind(kind)
    want_operation(kind, new, "new")
    want_operation(kind, held, "held")
    rows = reached_turns(kind, IN_PLACE, (tuple(new), tuple(held)))
    worst = worst_of(kind, rows)
    return goes_by(kind, rows) if worst is None else Sticks(worst[0], worst[2])


def goes_beside(kind, one, other):
    """The Goes if they go beside one another, otherwise the least Jars."""
    want_kind(kind)
    want_operation(kind, one, "one")
    want_operation(kind, other, "other")
    rows = reached_turns(kind, LAID_BY, (tuple(one), tuple(other)))
    worst = worst_of(kind, rows)
    if worst is None:
        return goes_by(kind, rows)
    before, turned, behind = worst
    return Jars(before, turned[0], turned[1], behind)


def clash_table(kind, way):
    """All pairs of operations that clash, laid by both ways round, ascending."""
    want_kind(kind)
    rows = turns_of(kind, way, sorted(ways_of(kind)))
    steps = gap_steps(kind, behind_states(rows))
    return tuple(sorted({pair for row in rows if does_clash(row, steps) for pair in rounds_of(way, row[1])}))


def back_table(kind):
    """All pairs (new, held) of which new does not go back over held."""
    return clash_table(kind, IN_PLACE)


def beside_table(kind):
    """All pairs that do not go beside one another, both ways round."""
    return clash_table(kind, LAID_BY)
