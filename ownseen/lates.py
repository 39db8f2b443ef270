"""The late world: a deal gets its stamp with its yes."""

from ownseen.cases import Case, rooms_of
from ownseen.earlies import readies_of
from ownseen.errors import Impossible, Misfit
from ownseen.guards import want_few
from ownseen.histories import places_of
from ownseen.papers import Paper
from ownseen.stairs import StampTorn
from ownseen.stamps import by_stamps, in_order, is_late, kept_by_stamps
from ownseen.torn import tickets_weave
from ownseen.watches import ahead_with, deals_with, lots_with, spoilt_first, want_open


class LateLets(Paper):
    """For each lot closed by stamps the states that its orders leave."""

    def __init__(self, rooms):
        super().__init__("latelets", rooms)
        self.rooms = self.parts[0]


def want_late(stamped):
    """Raises BadValue, Misfit for what is no stamped history, or one whose stamps are not late."""
    if not is_late(stamped):
        raise Misfit("stamps")


def keeps_late(stamped):
    """The Fits of the order by stamps if it fits, otherwise the Breaks of it."""
    want_late(stamped)
    return kept_by_stamps(stamped)


def late_case(history, by_deal, deal):
    """The case of the ended and the ready deals, and of this one; the stamps, late ones, bind the ended deals."""
    ahead = ahead_with(history, deal)
    order = in_order(history.ended, by_deal)
    for at, other in enumerate(order):
        # Late stamps hold what is seen: nothing is lost here.
        ahead[other] = order[:at]
    return Case(history, deals_with(history, deal), ahead)


def lets_late_case(stamped, deal):
    """The case of lets_late, with its errors."""
    want_late(stamped)
    history = stamped.history
    want_open(history, deal)
    want_few(deals_with(history, deal))
    return late_case(history, stamped.by_deal, deal)


def lets_late(stamped, deal):
    """The LateLets of all rooms if the deal is let, or the Spoils of the first lot with it."""
    case = lets_late_case(stamped, deal)
    rooms = rooms_of(case)
    if rooms is not None:
        return LateLets(rooms)
    return spoilt_first(case, stamped.history.ended, lots_with(stamped.history, deal))


def right_late(stamped):
    """Whether the stamps are late, and each ready deal was let when its ready came."""
    are_late = is_late(stamped)
    want_few(places_of(stamped.history, "ready"))
    if not are_late:
        return False
    readies = readies_of(stamped.history)
    return all([rooms_of(late_case(ahead, stamped.by_deal, deal)) is not None for ahead, deal in readies])


def torn_late(stamped):
    """The StampTorn of a stamped history that does not keep the late rule."""
    paper = keeps_late(stamped)
    want_few(stamped.history.ended)
    if paper:
        raise Impossible(paper)
    return StampTorn(tickets_weave(stamped.history, by_stamps(stamped)), stamped.stamps)
