"""Whether a value is a right paper about stamped histories."""

from ownseen.boards import is_stuck
from ownseen.check_torn import is_double
from ownseen.checks import are_integers, is_lot, is_within
from ownseen.earlies import Apart, EarlyLets, board_with, early_order, early_row, keeps_early, right_early, want_stamps
from ownseen.guards import MOST_DEALS, want_few
from ownseen.histories import places_of
from ownseen.joins import Lax
from ownseen.lates import LateLets, keeps_late, lets_late_case, right_late, want_late
from ownseen.orders import Fits, fits
from ownseen.own import Breaks, keeps
from ownseen.shown import are_rooms, is_deal_lot, is_spoilt_with, leads_into
from ownseen.stairs import StampTorn
from ownseen.stamps import in_order, joined_by, stamp_rows, stamped_part, want_stamped
from ownseen.watches import Spoils, joined_lot, want_open
from ownseen.weaves import at, histories_of, order_of_all


def is_order_paper(value, paper):
    """Whether any value is this paper of an order; True and False are no numbers in it."""
    if not isinstance(value, (Fits, Breaks)):
        return False
    return are_integers(value.order) and value == paper


def shows_early(stamped, value):
    """Whether it is the right paper of whether the early rule is kept."""
    return is_order_paper(value, keeps_early(stamped))


def shows_late(stamped, value):
    """Whether it is the right paper of whether the late rule is kept."""
    return is_order_paper(value, keeps_late(stamped))


def are_early_rooms(history, by_deal, deal, rooms):
    """Whether any value has a lot of states ahead of each deal, out of which none leads, or sticks."""
    row = early_row(history, by_deal, deal)
    if not isinstance(rooms, tuple) or len(rooms) != len(row) + 1:
        return False
    if not all([is_lot(room, history.kind.states) for room in rooms]):
        return False
    board = board_with(history, deal)
    for other, room, wider in zip(row, rooms, rooms[1:]):
        if not leads_into(board, other, room, wider):
            return False
        if other in history.readied and not all([state in wider for state in room]):
            return False
    return board.first in rooms[0]


def is_spoilt_early(history, by_deal, deal, value):
    """Whether the parts of a Spoils are a lot that has the deal, and its order by stamps, which sticks."""
    if not is_deal_lot(value.deals, joined_lot(history.readied, (deal,))) or deal not in value.deals:
        return False
    order = early_order(history, by_deal, value.deals)
    return are_integers(value.order) and value.order == order and is_stuck(board_with(history, deal), order)


def shows_lets_early(stamped, deal, value):
    """Whether it is a right paper of whether the deal is let in the early world."""
    want_stamped(stamped)
    history = stamped.history
    want_open(history, deal)
    if isinstance(value, EarlyLets):
        return are_early_rooms(history, stamped.by_deal, deal, value.rooms)
    return isinstance(value, Spoils) and is_spoilt_early(history, stamped.by_deal, deal, value)


def shows_lets_late(stamped, deal, value):
    """Whether it is a right paper of whether the deal is let in the late world."""
    case = lets_late_case(stamped, deal)
    if isinstance(value, LateLets):
        return are_rooms(case, value.rooms)
    return isinstance(value, Spoils) and is_spoilt_with(case, stamped.history, deal, value)


def is_lax_by(histories, by_deal, value):
    """Whether the parts of a Lax are a house, and its order by stamps, which does not fit."""
    if not is_within(value.house, 0, len(histories) - 1):
        return False
    history = histories[value.house]
    order = in_order(history.ended, by_deal)
    return are_integers(value.order) and value.order == order and not fits(history, order)


def shows_joined_by(weave, stamps, value):
    """Whether it is a right paper of whether the order by stamps fits at all houses."""
    paper = joined_by(weave, stamps)
    if isinstance(value, Lax):
        return is_lax_by(histories_of(weave), stamp_rows(weave.deals, stamps), value)
    return is_order_paper(value, paper)


def second_house(stamped, value):
    """The stamped history of the second house of a StampTorn; None if the value cannot be a right one."""
    if not isinstance(value, StampTorn) or not is_double(value.weave):
        return None
    if not are_integers(value.stamps) or value.stamps != stamped.stamps:
        return None
    history = stamped.history
    if at(value.weave, 0) != history or value.weave.deals != history.deals:
        return None
    other = at(value.weave, 1)
    if len(places_of(other, "ready")) > MOST_DEALS:
        return None
    return stamped_part(other, stamped.by_deal)


def shows_torn_early(stamped, value):
    """Whether it is a right paper of what tears the stamped history in the early world."""
    want_stamped(stamped)
    want_few(stamped.history.ended)
    other = second_house(stamped, value)
    return other is not None and right_early(other) and not order_of_all(value.weave)


def shows_torn_late(stamped, value):
    """Whether it is a right paper of what tears the stamped history in the late world."""
    want_late(stamped)
    want_few(stamped.history.ended)
    other = second_house(stamped, value)
    return other is not None and right_late(other) and not order_of_all(value.weave)


def are_apart(weave, stamps):
    """Whether each of the two houses of the weave is right by itself, the first one by the stamps."""
    if not right_early(stamped_part(at(weave, 0), stamp_rows(weave.deals, stamps))):
        return False
    return bool(keeps(at(weave, 1))) and not order_of_all(weave)


def shows_apart(stamps, value):
    """Whether it is a right paper of a stair by the stamps, or such, and of a house that fits no order with it."""
    want_stamps(stamps)
    if not isinstance(value, Apart) or not is_double(value.weave):
        return False
    deals = tuple(range(len(stamps)))
    if value.weave.deals != deals or value.weave.ended != deals:
        return False
    return are_apart(value.weave, stamps)
