"""Closed lots of deals, the rooms that they leave, and the first order that breaks the own rule."""

from itertools import combinations

from ownseen.boards import Board
from ownseen.histories import ahead_of


class Case:
    """Deals that have a yes, or are looked at as if: ahead tells what is seen ahead of each."""

    def __init__(self, history, deals, ahead):
        self.deals = deals
        self.ahead = ahead
        self.states = history.kind.states
        self.board = Board(history.kind, history.works, deals)
        self.first = self.board.first
        self.leads = self.board.leads


def case_of(history, deals):
    """The case of a lot of deals that are ended or ready in the history."""
    return Case(history, deals, ahead_of(history, deals))


def lots_of(deals):
    """All lots of the deals, shorter ones first, those of one length ascending."""
    rows = list(deals)
    return [lot for many in range(len(rows) + 1) for lot in combinations(rows, many)]


def is_closed(case, lot):
    """Whether the lot has with each deal all that are seen ahead of it."""
    return all([other in lot for deal in lot for other in case.ahead[deal]])


def closed_of(case):
    """All closed lots, shorter ones first, those of one length ascending."""
    return tuple([lot for lot in lots_of(case.deals) if is_closed(case, lot)])


def without(lot, deal):
    """The lot without the deal."""
    return tuple([other for other in lot if other != deal])


def room_of(case, rooms, lot):
    """The room of a closed lot, by those of the lots with one deal less; None if a deal sticks."""
    room = set()
    for deal in lot:
        for state in rooms.get(without(lot, deal), ()):
            to = case.leads[deal][state]
            if to is None:
                return None
            room.add(to)
    return tuple(sorted(room))


def rooms_of(case):
    """The pairs of each closed lot and its room, None if some order of a closed lot sticks."""
    rooms = {(): (case.first,)}
    for lot in closed_of(case)[1:]:
        room = room_of(case, rooms, lot)
        if room is None:
            return None
        rooms[lot] = room
    return tuple(rooms.items())


def next_of(ahead, lot, done):
    """The deals of the lot that can come next behind those done; ahead tells what is seen ahead of each."""
    return [deal for deal in lot if deal not in done and all([other in done for other in ahead[deal]])]


def least_order(ahead, lot, done):
    """The least order of the lot that begins with those done and holds what is seen."""
    order = done
    while len(order) < len(lot):
        order = order + (next_of(ahead, lot, order)[0],)
    return order


def break_behind(case, lot, done, state, sound):
    """The least order that begins with those done and sticks, None if there is none.

    Sound keeps the lots and states behind which no order sticks.
    """
    place = (tuple(sorted(done)), state)
    if place in sound:
        return None
    for deal in next_of(case.ahead, lot, done):
        order = done + (deal,)
        to = case.leads[deal][state]
        found = least_order(case.ahead, lot, order)
        if to is not None:
            found = break_behind(case, lot, order, to, sound)
        if found is not None:
            return found
    sound[place] = True
    return None


def first_break(case, lot):
    """The least order of a closed lot that holds what is seen and sticks, None if there is none."""
    return break_behind(case, lot, (), case.first, {})
