"""Histories that break the own rule, each torn by a house that gives out numbers."""

from ownseen.cases import lots_of, without
from ownseen.errors import BadLot, BadOrder, Impossible, Misfit
from ownseen.guards import want_few
from ownseen.histories import History, places_of, want_history
from ownseen.makers import tickets
from ownseen.orders import holds_seen
from ownseen.own import keeps
from ownseen.papers import Paper
from ownseen.shown import is_deal_lot
from ownseen.weaves import Weave


class Torn(Paper):
    """A weave that tears a history."""

    def __init__(self, weave):
        super().__init__("torn", weave)
        self.weave = self.parts[0]


class Core(Paper):
    """The least lot narrowed to which a history is torn, the weave, and why no deal can be missed."""

    def __init__(self, deals, weave, papers):
        super().__init__("core", deals, weave, papers)
        self.deals = self.parts[0]
        self.weave = self.parts[1]
        self.papers = self.parts[2]


def want_some_ended(history):
    """Raises Misfit, TooMany for a history without ended deals, or with too many of them."""
    if not history.ended:
        raise Misfit("history")
    want_few(history.ended)


def doubled(history, kind, asked, ends):
    """The weave of the history and of a house of the kind, where asked comes first.

    Ends are pairs (index, deal): behind this event the deal is ready there, and has its yes.
    """
    events = list(asked)
    for at, event in enumerate(history.events):
        events.append((event[0], 0, *event[1:]))
        for place, deal in ends:
            if place == at:
                events.extend([("ready", 1, deal), ("yes", 1, deal)])
    return Weave([history.kind, kind], events)


def with_tickets(history, order):
    """The tickets weave of the history and of an order that holds what is seen."""
    ready_at = places_of(history, "ready")
    asked = []
    ends = []
    latest = 0
    for number, deal in enumerate(order):
        asked.extend([("ask", 1, deal, 0), ("answer", 1, deal, number)])
        latest = max(latest, ready_at[deal])
        ends.append((latest, deal))
    return doubled(history, tickets(len(order)), asked, ends)


def tickets_weave(history, order):
    """The tickets weave of the history and of an order of it that holds what is seen."""
    if not holds_seen(history, order):
        raise BadOrder("order")
    want_some_ended(history)
    return with_tickets(history, order)


def narrowed_to(history, deals):
    """The history with a no in the place of the yes of each deal that is not among these."""
    events = []
    for event in history.events:
        is_off = event[0] == "yes" and event[1] not in deals
        events.append(("no", event[1]) if is_off else event)
    return History(history.kind, events)


def narrowed(history, deals):
    """The history, narrowed to a lot of its ended deals."""
    want_history(history)
    if not is_deal_lot(deals, history.ended):
        raise BadLot("deals")
    return narrowed_to(history, deals)


def want_broken(history):
    """The Breaks of a history; raises Impossible with the Keeps if there is none."""
    paper = keeps(history)
    if paper:
        raise Impossible(paper)
    return paper


def torn(history):
    """The Torn of a history that breaks the own rule."""
    return Torn(with_tickets(history, want_broken(history).order))


def core_lot(history):
    """The core of a history that breaks the own rule."""
    for lot in lots_of(history.ended):
        if not keeps(narrowed_to(history, lot)):
            break
    return lot


def core(history):
    """The Core of a history that breaks the own rule."""
    want_broken(history)
    lot = core_lot(history)
    papers = [keeps(narrowed_to(history, without(lot, deal))) for deal in lot]
    return Core(lot, torn(narrowed_to(history, lot)).weave, papers)
