"""What papers show of a case of deals: rooms that are wide enough, and orders that break."""

from ownseen.boards import is_stuck
from ownseen.cases import closed_of, without
from ownseen.checks import is_lot, is_order
from ownseen.guards import TOP_DEAL
from ownseen.watches import joined_lot


def is_deal_lot(value, deals):
    """Whether any value is a lot of some of the deals."""
    return is_lot(value, TOP_DEAL + 1) and all([deal in deals for deal in value])


def is_room_row(case, lot, row):
    """Whether any value is the pair of this lot and of a lot of states."""
    if not isinstance(row, tuple) or len(row) != 2:
        return False
    return is_deal_lot(row[0], case.deals) and row[0] == lot and is_lot(row[1], case.states)


def leads_into(case, deal, room, wider):
    """Whether the deal can be played from each state of the one room, and leads into the other."""
    return all([case.leads[deal][state] in wider for state in room])


def are_rooms(case, rooms):
    """Whether any value has a lot of states for each closed lot, out of which no deal leads or sticks."""
    closed = closed_of(case)
    if not isinstance(rooms, tuple) or len(rooms) != len(closed):
        return False
    if not all([is_room_row(case, lot, row) for lot, row in zip(closed, rooms)]):
        return False
    told = {lot: room for lot, room in rooms}
    if case.first not in told[()]:
        return False
    for lot in closed:
        for deal in lot:
            if not leads_into(case, deal, told.get(without(lot, deal), ()), told[lot]):
                return False
    return True


def holds_ahead(case, order):
    """Whether in an order of a closed lot each deal stands behind those that are seen ahead of it."""
    return all([other in order[:at] for at, deal in enumerate(order) for other in case.ahead[deal]])


def is_break(case, lot, order):
    """Whether any value is an order of the closed lot that holds what is seen and does not fit."""
    return is_order(order, lot) and holds_ahead(case, order) and is_stuck(case.board, order)


def is_spoilt(case, ended, readied, value):
    """Whether the parts of a Spoils are a lot of the ready deals, and an order of it that breaks."""
    if not is_deal_lot(value.deals, readied):
        return False
    return is_break(case, joined_lot(ended, value.deals), value.order)


def is_spoilt_with(case, history, deal, value):
    """Whether the parts of a Spoils are such a lot that has the deal, and such an order."""
    readied = joined_lot(history.readied, (deal,))
    return is_spoilt(case, history.ended, readied, value) and deal in value.deals
