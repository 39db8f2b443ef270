"""Watching: which ready deals, and which one more, leave the own rule kept whatever yeses come."""

from ownseen.cases import Case, case_of, first_break, lots_of, rooms_of
from ownseen.checks import is_within
from ownseen.errors import BadNumber
from ownseen.guards import TOP_DEAL, want_few
from ownseen.histories import ahead_of, waiting, want_history
from ownseen.papers import Denial, Paper


class Lets(Paper):
    """For each closed lot of the deals that have, or may have, a yes its room."""

    def __init__(self, rooms):
        super().__init__("lets", rooms)
        self.rooms = self.parts[0]


class Spoils(Denial):
    """Ready deals, and an order that breaks the own rule if just these have their yes."""

    def __init__(self, deals, order):
        super().__init__("spoils", deals, order)
        self.deals = self.parts[0]
        self.order = self.parts[1]


def joined_lot(lot, other):
    """The lot of the deals of both lots."""
    return tuple(sorted(lot + other))


def spoilt_first(case, ended, lots):
    """The Spoils of the first of the lots that is spoilt, if some order of the case sticks.

    No ready deal is seen ahead of another one: so each lot is closed, with the ended
    deals, and if some order sticks the last lot, which has all ready deals, is spoilt.
    """
    for lot in lots:
        order = first_break(case, joined_lot(ended, lot))
        if order is not None:
            break
    return Spoils(lot, order)


def always_case(history):
    """The case of all ended and ready deals."""
    want_history(history)
    deals = joined_lot(history.ended, history.readied)
    want_few(deals)
    return case_of(history, deals)


def always(history):
    """The Lets of all rooms if no lot of the ready deals is spoilt, or the Spoils of the first one."""
    case = always_case(history)
    rooms = rooms_of(case)
    return spoilt_first(case, history.ended, lots_of(history.readied)) if rooms is None else Lets(rooms)


def may_be_ready(history, deal):
    """Whether any value is a deal that is open, not ready, and has nothing unanswered."""
    if not is_within(deal, 0, TOP_DEAL) or deal not in history.opened:
        return False
    return deal not in history.readied and waiting(history, deal) is None


def want_open(history, deal):
    """Raises BadNumber for any value but a deal that may be ready."""
    if not may_be_ready(history, deal):
        raise BadNumber("deal")


def deals_with(history, deal):
    """The lot of the ended and the ready deals, and this one."""
    return joined_lot(joined_lot(history.ended, history.readied), (deal,))


def lots_with(history, deal):
    """All lots of the ready deals and this one that have it, shorter ones first, then ascending."""
    return [lot for lot in lots_of(joined_lot(history.readied, (deal,))) if deal in lot]


def ahead_with(history, deal):
    """What is seen ahead of each ended and ready deal, and of this one when its ready is put behind."""
    ahead = ahead_of(history, joined_lot(history.ended, history.readied))
    # Its ready stands behind all yeses, whatever it saw until now.
    ahead[deal] = history.ended
    return ahead


def lets_case(history, deal):
    """The case of all ended and ready deals, and of this one with its ready put behind."""
    want_history(history)
    want_open(history, deal)
    deals = deals_with(history, deal)
    want_few(deals)
    return Case(history, deals, ahead_with(history, deal))


def lets(history, deal):
    """The Lets of all rooms if the deal is let, or the Spoils of the first lot with it."""
    case = lets_case(history, deal)
    rooms = rooms_of(case)
    return spoilt_first(case, history.ended, lots_with(history, deal)) if rooms is None else Lets(rooms)
