"""Ways of working: which answers may be given, and which readies may be told, behind a log."""

from ownseen.checks import is_ascending, is_row
from ownseen.errors import BadNumber, BadTable
from ownseen.guards import MOST_DEALS, want_deal, want_number
from ownseen.kinds import want_kind
from ownseen.logs import WATCHED, WAYS, is_over, logged, view_in, want_way
from ownseen.plays import are_operations
from ownseen.watches import deals_with, lets, may_be_ready


def is_table_row(kind, value):
    """Whether any value is a pair of operations of the kind."""
    return are_operations(kind, value) and len(value) == 2


def tabled(kind, table):
    """The pairs of any value as a clash table; raises BadTable if it is none."""
    if not is_row(table) or not all([is_table_row(kind, row) for row in table]):
        raise BadTable("table")
    pairs = [(tuple(new), tuple(held)) for new, held in table]
    if not is_ascending(pairs):
        raise BadTable("table")
    return {pair: True for pair in pairs}


def held_by_others(history, deal):
    """The operations that other deals hold."""
    return [work for other in history.opened if other != deal for work in history.works.get(other, ())]


def may_give(history, way, pairs, deal, work):
    """Whether the answer of the operation may be given to its ask of the deal; pairs are those of a table."""
    view = view_in(history, way, deal)
    if view is None or work not in history.kind.offers[view]:
        return False
    return way == WATCHED or not any([(work, held) in pairs for held in held_by_others(history, deal)])


def least_answer(history, way, pairs, deal, ask):
    """The least answer that may be given to the ask of the deal, None if it waits."""
    for answer in range(len(history.kind.answers)):
        if may_give(history, way, pairs, deal, (ask, answer)):
            return answer
    return None


def may_tell_ready(history, way, deal):
    """Whether a ready of the deal, which can stand, may be told."""
    if way != WATCHED:
        return True
    if not may_be_ready(history, deal) or len(deals_with(history, deal)) > MOST_DEALS:
        return False
    return bool(lets(history, deal))


def want_asking(history, deal):
    """Raises BadNumber for any value but a deal that has no ready, yes or no."""
    want_deal(deal)
    if is_over(history, deal) or deal in history.readied:
        raise BadNumber("deal")


def asked(kind, way, table, log, deal):
    """The history of the log, and the pairs of the table; raises the errors of all arguments up to the deal."""
    want_kind(kind)
    want_way(way, WAYS)
    pairs = tabled(kind, table)
    history = logged(kind, log)
    want_asking(history, deal)
    return (history, pairs)


def may_answer(kind, way, table, log, deal, ask, answer):
    """Whether the answer may be given to the ask of the deal."""
    history, pairs = asked(kind, way, table, log, deal)
    want_number(ask, len(kind.asks), "ask")
    want_number(answer, len(kind.answers), "answer")
    return may_give(history, way, pairs, deal, (ask, answer))


def answer_for(kind, way, table, log, deal, ask):
    """The least answer that may be given to the ask of the deal, None if it waits."""
    history, pairs = asked(kind, way, table, log, deal)
    want_number(ask, len(kind.asks), "ask")
    return least_answer(history, way, pairs, deal, ask)


def may_ready(kind, way, log, deal):
    """Whether a ready of the deal may be told."""
    want_kind(kind)
    want_way(way, WAYS)
    history = logged(kind, log)
    want_asking(history, deal)
    if deal not in history.deals:
        raise BadNumber("deal")
    return may_tell_ready(history, way, deal)


def is_stray(history, way, pairs, record):
    """Whether behind the history of a log the record is an answer, or a ready, that may not be."""
    if record[0] == "do":
        return not may_give(history, way, pairs, record[1], (record[2], record[3]))
    return record[0] == "ready" and not may_tell_ready(history, way, record[1])


def stray_in(kind, way, pairs, log):
    """The index of the first record of a log that may not stand there, None if it is run."""
    for at, record in enumerate(log):
        if is_stray(logged(kind, log[:at]), way, pairs, record):
            return at
    return None


def first_stray(kind, way, table, log):
    """The index of the first record that may not stand where it stands, None if the log is run."""
    want_kind(kind)
    want_way(way, WAYS)
    pairs = tabled(kind, table)
    logged(kind, log)
    return stray_in(kind, way, pairs, log)
