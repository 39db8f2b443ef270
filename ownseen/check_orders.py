"""Whether a value is a right paper about the orders of a history, or of a weave."""

from math import factorial

from ownseen.boards import Board, stuck_at
from ownseen.checks import are_integers, is_ascending, is_integer, is_order
from ownseen.guards import want_few
from ownseen.histories import want_history
from ownseen.orders import Bars, Fits
from ownseen.weaves import boards_of, want_weave


def shows_order(history, value):
    """Whether it is a right paper about the orders of the history."""
    want_history(history)
    want_few(history.ended)
    boards = [Board(history.kind, history.works, history.ended)]
    if isinstance(value, Fits):
        return shows_fits(boards, history.ended, value.order)
    if isinstance(value, Bars) and isinstance(value.beginnings, tuple):
        return shows_bars(boards, history.ended, [(beginning, 0) for beginning in value.beginnings])
    return False


def shows_order_of_all(weave, value):
    """Whether it is a right paper about the orders of the weave."""
    want_weave(weave)
    want_few(weave.ended)
    boards = boards_of(weave)
    if isinstance(value, Fits):
        return shows_fits(boards, weave.ended, value.order)
    if isinstance(value, Bars) and isinstance(value.beginnings, tuple):
        return shows_bars(boards, weave.ended, value.beginnings)
    return False


def shows_fits(boards, deals, order):
    """Whether it is an order of the deals that fits."""
    return is_order(order, deals) and stuck_at(boards, order) is None


def shows_bars(boards, deals, bars):
    """Whether they are the shortest beginnings of all orders, that do not fit, and their houses.

    Of beginnings each of which ends where it first does not fit none begins another;
    so it is enough that they ascend, and that as many orders begin with them as there are.
    """
    if not all([is_bar(boards, deals, bar) for bar in bars]):
        return False
    beginnings = [bar[0] for bar in bars]
    begun = sum([factorial(len(deals) - len(beginning)) for beginning in beginnings])
    return is_ascending(beginnings) and begun == factorial(len(deals))


def is_bar(boards, deals, bar):
    """Whether it is a pair of unlike deals, only the last of which cannot be played, and a house."""
    if not isinstance(bar, tuple) or len(bar) != 2 or not is_integer(bar[1]):
        return False
    beginning = bar[0]
    if not are_integers(beginning) or len(set(beginning)) != len(beginning):
        return False
    if not all([deal in deals for deal in beginning]):
        return False
    return stuck_at(boards, beginning) == (len(beginning) - 1, bar[1])
