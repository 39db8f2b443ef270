"""Boards: what each of some deals makes of each state, and orders played over them."""

from ownseen.plays import led


class Board:
    """For a house: leads tells for each deal to which state it leads from each, None if nowhere."""

    def __init__(self, kind, works, deals):
        self.first = kind.first
        self.leads = {}
        for deal in deals:
            done = works.get(deal, ())
            self.leads[deal] = [led(kind, state, done) for state in range(kind.states)]


def firsts_of(boards):
    """The first state of each board."""
    return [board.first for board in boards]


def behind_deal(boards, states, deal):
    """The state of each board behind the deal, None where it cannot be played."""
    return [board.leads[deal][state] for board, state in zip(boards, states)]


def stuck_at(boards, order):
    """The index of the first deal that cannot be played, and the first house of it; None if all can."""
    states = firsts_of(boards)
    for at, deal in enumerate(order):
        states = behind_deal(boards, states, deal)
        if None in states:
            return (at, states.index(None))
    return None


def is_stuck(board, order):
    """Whether the order of some deals cannot be played at the one house."""
    return stuck_at([board], order) is not None


def order_behind(boards, deals, done, states, bars):
    """The least order of the deals that fits and begins with those done, None if there is none.

    The pairs of each shortest beginning that does not fit, and its first house, join the bars.
    """
    if len(done) == len(deals):
        return done
    for deal in deals:
        if deal not in done:
            beginning = done + (deal,)
            behind = behind_deal(boards, states, deal)
            if None in behind:
                bars.append((beginning, behind.index(None)))
            else:
                order = order_behind(boards, deals, beginning, behind, bars)
                if order is not None:
                    return order
    return None


def order_or_bars(boards, deals):
    """The least order that fits, None if there is none, and the bars of all orders ahead of it, ascending."""
    bars = []
    order = order_behind(boards, deals, (), firsts_of(boards), bars)
    return (order, bars)
