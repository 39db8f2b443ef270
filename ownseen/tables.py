"""Tables that are enough: whether each log that is run with one keeps the own rule."""

from ownseen.clashes import behind_states, clash_table, reached_turns, worst_of
from ownseen.courses import MOST_EVENTS
from ownseen.errors import TooMany
from ownseen.kinds import want_kind
from ownseen.logs import want_way
from ownseen.papers import Denial, Paper
from ownseen.plays import ways_of
from ownseen.turns import carried_from, rounds_of, turns_of
from ownseen.ways import tabled

TABLE_WAYS = ("in place", "laid by")


class Enough(Paper):
    """States, and pairs of states, that show that all operations that are not in a table can be turned round."""

    def __init__(self, places, pairs):
        super().__init__("enough", places, pairs)
        self.places = self.parts[0]
        self.pairs = self.parts[1]


class Lacks(Denial):
    """A log that is run with a table, and does not keep the own rule."""

    def __init__(self, log):
        super().__init__("lacks", log)
        self.log = self.parts[0]


def table_pairs(kind, way, table):
    """The pairs of the table; raises the errors of all arguments."""
    want_kind(kind)
    want_way(way, TABLE_WAYS)
    return tabled(kind, table)


def rows_without(kind, way, pairs, places):
    """The rows, from these states, of all operations that are not in the table, laid by one way round or the other."""
    return [
        row for row in turns_of(kind, way, places)
        if any([pair not in pairs for pair in rounds_of(way, row[1])])
    ]


def dos_of(deal, works):
    """The records of what the deal does."""
    return [("do", deal, ask, answer) for ask, answer in works]


def whole(deal, works):
    """The records of a deal that does this, is ready, and has its yes; none if it does nothing."""
    return dos_of(deal, works) + [("ready", deal), ("yes", deal)] if works else []


def lacking_log(kind, way, pair):
    """The log in which deal 2 does new while deal 1 holds held, and one of their orders cannot be played."""
    new, held = pair
    before, turned, behind = worst_of(kind, reached_turns(kind, way, pair))
    # In place the two are always turned as they stand in the table, new ahead of held.
    early, late = (1, 2) if turned[0] == new else (2, 1)
    middle = dos_of(1, [held]) + dos_of(2, [new]) + [("ready", 1), ("ready", 2), ("yes", early), ("yes", late)]
    return whole(0, before) + middle + whole(3, behind)


def many_events(log):
    """How many events the history of the log has."""
    return sum([2 if record[0] == "do" else 1 for record in log])


def is_enough(kind, way, table):
    """The Enough if the table is enough, otherwise the Lacks of the log that the first missing pair lets be run."""
    pairs = table_pairs(kind, way, table)
    missing = [pair for pair in clash_table(kind, way) if pair not in pairs]
    if not missing:
        places = sorted(ways_of(kind))
        return Enough(places, carried_from(kind, behind_states(rows_without(kind, way, pairs, places))))
    log = lacking_log(kind, way, missing[0])
    if many_events(log) > MOST_EVENTS:
        raise TooMany("events", MOST_EVENTS)
    return Lacks(log)
