"""Logs: what a house did, and what it means by its way of working."""

from ownseen.checks import is_row
from ownseen.errors import BadEvents, BadLog, BadNumber, BadValue
from ownseen.guards import want_deal
from ownseen.histories import History, places_of
from ownseen.kinds import want_kind
from ownseen.plays import led
from ownseen.turns import IN_PLACE

WATCHED = "watched"
WAYS = ("in place", "laid by", "watched")


def want_way(way, ways):
    """Raises BadValue for what is none of these ways."""
    if not isinstance(way, str) or way not in ways:
        raise BadValue("way")


def events_of(record):
    """The events of any value as a record; one that cannot stand if it is none."""
    if not is_row(record) or not record or not isinstance(record[0], str):
        return [None]
    if record[0] == "do" and len(record) == 4:
        return [("ask", record[1], record[2]), ("answer", record[1], record[3])]
    return [record] if record[0] in ("ready", "yes", "no") else [None]


def logged(kind, log):
    """The history of any value as a log; raises BadLog if it is none."""
    if not is_row(log):
        raise BadLog("log")
    events = [event for record in log for event in events_of(record)]
    try:
        return History(kind, events)
    except BadEvents:
        raise BadLog("log") from None


def history_of(kind, log):
    """The history of the log."""
    want_kind(kind)
    return logged(kind, log)


def is_over(history, deal):
    """Whether the deal is ended or called off."""
    return deal in history.deals and deal not in history.opened


def dones_of(history):
    """The pairs (deal, operation) of a history of a log, in the order in which they came."""
    events = history.events
    return [
        (event[1], (events[at - 1][2], event[2])) for at, event in enumerate(events) if event[0] == "answer"
    ]


def done_in_place(history, deals):
    """The operations of these deals, in the order in which they came."""
    return [work for deal, work in dones_of(history) if deal in deals]


def done_by_yeses(history):
    """The operations of the ended deals, deal behind deal, in the order of their yeses."""
    return [work for deal in places_of(history, "yes") for work in history.works.get(deal, ())]


def view_in(history, way, deal):
    """The view of a deal that is not over, None if there is none."""
    kind = history.kind
    if way == IN_PLACE:
        return led(kind, kind.first, done_in_place(history, history.ended + history.opened))
    return led(kind, kind.first, done_by_yeses(history) + list(history.works.get(deal, ())))


def view_of(kind, way, log, deal):
    """The view of a deal that is neither ended nor called off, None if there is none."""
    want_kind(kind)
    want_way(way, WAYS)
    history = logged(kind, log)
    want_deal(deal)
    if is_over(history, deal):
        raise BadNumber("deal")
    return view_in(history, way, deal)


def meant_by(kind, way, log):
    """The state to which what the ended deals did leads, None if it cannot be played."""
    want_kind(kind)
    want_way(way, WAYS)
    history = logged(kind, log)
    if way == IN_PLACE:
        return led(kind, kind.first, done_in_place(history, history.ended))
    return led(kind, kind.first, done_by_yeses(history))
