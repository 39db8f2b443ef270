"""The early world: a deal has its stamp before it asks anything."""

from ownseen.boards import Board, is_stuck
from ownseen.checks import is_ascending, is_row
from ownseen.errors import BadStamps, Impossible
from ownseen.guards import MOST_DEALS, want_few
from ownseen.histories import History
from ownseen.makers import tickets
from ownseen.orders import Fits
from ownseen.papers import Paper
from ownseen.stairs import StampTorn, stair, stair_weave
from ownseen.stamps import are_stamps, in_order, kept_by_stamps, want_stamped
from ownseen.watches import Spoils, deals_with, joined_lot, lots_with, want_open
from ownseen.weaves import Weave


class EarlyLets(Paper):
    """For each number of deals, by their stamps, the states that they leave, whatever yeses come."""

    def __init__(self, rooms):
        super().__init__("earlylets", rooms)
        self.rooms = self.parts[0]


class Apart(Paper):
    """A weave of a house of the early world and of one that keeps its own rule, which fits no order."""

    def __init__(self, weave):
        super().__init__("apart", weave)
        self.weave = self.parts[0]


def keeps_early(stamped):
    """The Fits of the order by stamps if it fits, otherwise the Breaks of it."""
    return kept_by_stamps(stamped)


def board_with(history, deal):
    """The board of the ended and the ready deals, and of this one."""
    return Board(history.kind, history.works, deals_with(history, deal))


def early_row(history, by_deal, deal):
    """The ended and the ready deals, and this one, by their stamps."""
    return in_order(deals_with(history, deal), by_deal)


def early_rooms(history, by_deal, deal):
    """The rooms along the stamps, the deal having its yes; None if some lot of ready deals sticks."""
    board = board_with(history, deal)
    rooms = [(board.first,)]
    for other in early_row(history, by_deal, deal):
        tos = [board.leads[other][state] for state in rooms[-1]]
        if None in tos:
            return None
        if other in history.readied:
            # Whether a ready deal stands in its place is open.
            tos.extend(rooms[-1])
        rooms.append(tuple(sorted(set(tos))))
    return rooms


def early_order(history, by_deal, lot):
    """The order by stamps of the ended deals and those of the lot."""
    return in_order(joined_lot(history.ended, lot), by_deal)


def spoilt_early(history, by_deal, deal):
    """The Spoils of the first lot that sticks, if there is one."""
    board = board_with(history, deal)
    for lot in lots_with(history, deal):
        order = early_order(history, by_deal, lot)
        if is_stuck(board, order):
            break
    return Spoils(lot, order)


def lets_early(stamped, deal):
    """The EarlyLets of the rooms if the deal is let, or the Spoils of the first lot with it."""
    want_stamped(stamped)
    history = stamped.history
    want_open(history, deal)
    rooms = early_rooms(history, stamped.by_deal, deal)
    return spoilt_early(history, stamped.by_deal, deal) if rooms is None else EarlyLets(rooms)


def readies_of(history):
    """For each ready of the history the pair of the history ahead of it, and of its deal."""
    return [
        (History(history.kind, history.events[:at]), event[1])
        for at, event in enumerate(history.events) if event[0] == "ready"
    ]


def right_early(stamped):
    """Whether each ready deal was let when its ready came."""
    want_stamped(stamped)
    readies = readies_of(stamped.history)
    return all([early_rooms(ahead, stamped.by_deal, deal) is not None for ahead, deal in readies])


def torn_early(stamped):
    """The StampTorn of a stamped history that does not keep the early rule."""
    paper = keeps_early(stamped)
    want_few(stamped.history.ended)
    if paper:
        raise Impossible(paper)
    return StampTorn(stair_weave(stamped), stamps=stamped.stamps)


def want_stamps(stamps):
    """Raises BadStamps for what is no row of 1 to 7 unlike integers."""
    if not is_row(stamps) or not 1 <= len(stamps) <= MOST_DEALS or not are_stamps(stamps, len(stamps)):
        raise BadStamps("stamps")


def apart_events(step, number):
    """What the deal of this number does, that takes this step."""
    return [
        ("ask", 0, number, step), ("answer", 0, number, 0), ("ask", 1, number, 0), ("answer", 1, number, number),
        ("ready", 0, number), ("ready", 1, number), ("yes", 0, number), ("yes", 1, number),
    ]


def apart(stamps):
    """The Apart of deals that go up a stair by their stamps, and draw numbers as time goes."""
    want_stamps(stamps)
    many = len(stamps)
    if is_ascending(stamps):
        raise Impossible(Fits(list(range(many))))
    ranked = sorted(stamps)
    events = []
    for number, stamp in enumerate(stamps):
        events.extend(apart_events(ranked.index(stamp), number))
    return Apart(Weave([stair(many), tickets(many)], events))
