"""Orders of the ended deals of a history, and which of them fit."""

from ownseen.boards import Board, order_or_bars
from ownseen.checks import is_order
from ownseen.errors import BadOrder
from ownseen.guards import want_few
from ownseen.histories import ahead_of, want_history
from ownseen.papers import Denial, Paper
from ownseen.plays import led


class Fits(Paper):
    """An order that fits."""

    def __init__(self, order):
        super().__init__("fits", order)
        self.order = self.parts[0]


class Bars(Denial):
    """The shortest beginnings of all orders that do not fit."""

    def __init__(self, beginnings):
        super().__init__("bars", beginnings)
        self.beginnings = self.parts[0]


def want_order(history, order):
    """Raises BadValue, BadOrder for what is no history, no order of it."""
    want_history(history)
    if not is_order(order, history.ended):
        raise BadOrder("order")


def holds_seen(history, order):
    """Whether the order holds what is seen."""
    want_order(history, order)
    ahead = ahead_of(history, order)
    return all([other in order[:at] for at, deal in enumerate(order) for other in ahead[deal]])


def left_by(history, order):
    """The state that the order leaves, None if it does not fit."""
    want_order(history, order)
    return led(history.kind, history.kind.first, [work for deal in order for work in history.works.get(deal, ())])


def fits(history, order):
    """Whether the order fits."""
    return left_by(history, order) is not None


def order_for(history):
    """The Fits of the least order that fits, or the Bars of all orders."""
    want_history(history)
    want_few(history.ended)
    order, bars = order_or_bars([Board(history.kind, history.works, history.ended)], history.ended)
    return Bars([bar[0] for bar in bars]) if order is None else Fits(order)
