"""Whether a value is a right paper about what tears a history, and about houses put together."""

from ownseen.cases import without
from ownseen.check_own import shows_keeps
from ownseen.checks import are_integers, is_order, is_within
from ownseen.guards import MOST_DEALS, want_few
from ownseen.histories import seen_of, want_history
from ownseen.joins import Lax, Ring, all_ended, completed_few, links_of, woven
from ownseen.orders import Fits, fits, holds_seen
from ownseen.own import Keeps, keeps
from ownseen.shown import is_deal_lot
from ownseen.torn import Core, Torn, narrowed_to
from ownseen.weaves import Weave, at, is_told, order_of_all


def is_double(weave):
    """Whether any value is a weave of two houses, at each of which it is a history."""
    return isinstance(weave, Weave) and len(weave.kinds) == 2 and is_told(weave)


def tears(weave, history):
    """Whether any value is a weave that tears the history, of no more ended deals than may be."""
    if not is_double(weave) or len(weave.ended) > MOST_DEALS or at(weave, 0) != history:
        return False
    return bool(keeps(at(weave, 1))) and not order_of_all(weave)


def shows_torn(history, value):
    """Whether it is a right paper of what tears the history."""
    want_history(history)
    want_few(history.ended)
    return isinstance(value, Torn) and tears(value.weave, history)


def is_keeping(history, value):
    """Whether any value is a Keeps that shows that the history keeps the own rule."""
    return isinstance(value, Keeps) and shows_keeps(history, value)


def shows_core(history, value):
    """Whether it is a right paper of a lot of deals that breaks the own rule, none of which can be missed."""
    want_history(history)
    want_few(history.ended)
    if not isinstance(value, Core) or not is_deal_lot(value.deals, history.ended):
        return False
    lot, papers = value.deals, value.papers
    if not isinstance(papers, tuple) or len(papers) != len(lot):
        return False
    rests = [narrowed_to(history, without(lot, deal)) for deal in lot]
    if not all([is_keeping(rest, paper) for rest, paper in zip(rests, papers)]):
        return False
    return tears(value.weave, narrowed_to(history, lot))


def is_common(histories, order):
    """Whether any value is an order of all ended deals that fits, and holds what is seen, in each history."""
    if not is_order(order, all_ended(histories)):
        return False
    for history in histories:
        part = [deal for deal in order if deal in history.ended]
        if not holds_seen(history, part) or not fits(history, part):
            return False
    return True


def is_lax(histories, value):
    """Whether the parts of a Lax are a house, and an order that breaks its own rule."""
    if not is_within(value.house, 0, len(histories) - 1):
        return False
    history = histories[value.house]
    if not is_order(value.order, history.ended):
        return False
    return holds_seen(history, value.order) and not fits(history, value.order)


def shows_common(histories, value):
    """Whether it is a right Fits or Lax of the histories, completed."""
    if isinstance(value, Fits):
        return is_common(histories, value.order)
    return isinstance(value, Lax) and is_lax(histories, value)


def shows_joined(weave, value):
    """Whether it is a right paper of whether the houses of the weave keep their own rule."""
    return shows_common(woven(weave), value)


def is_ring(histories, value):
    """Whether the parts of a Ring are unlike deals, and for each a house that saw it ahead of the next."""
    deals, houses = value.deals, value.houses
    if not are_integers(deals) or not are_integers(houses):
        return False
    if not 2 <= len(set(deals)) == len(deals) == len(houses):
        return False
    if not all([is_within(house, 0, len(histories) - 1) for house in houses]):
        return False
    seen = [seen_of(history) for history in histories]
    return all([pair in seen[house] for pair, house in zip(links_of(deals), houses)])


def shows_agreed(histories, value):
    """Whether it is a right paper of whether the histories fit one order together."""
    done = completed_few(histories)
    if isinstance(value, Ring):
        return is_ring(done, value)
    return shows_common(done, value)
