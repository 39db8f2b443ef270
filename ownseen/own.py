"""The own rule: whether the ended deals fit in every order that holds what is seen."""

from ownseen.cases import case_of, closed_of, first_break, rooms_of
from ownseen.guards import want_few
from ownseen.histories import want_history
from ownseen.papers import Denial, Paper


class Keeps(Paper):
    """For each closed lot its room."""

    def __init__(self, rooms):
        super().__init__("keeps", rooms)
        self.rooms = self.parts[0]


class Breaks(Denial):
    """An order that holds what is seen and does not fit."""

    def __init__(self, order):
        super().__init__("breaks", order)
        self.order = self.parts[0]


def ended_case(history):
    """The case of all ended deals."""
    want_history(history)
    want_few(history.ended)
    return case_of(history, history.ended)


def closed_lots(history):
    """All closed lots, shorter ones first, those of one length ascending."""
    return closed_of(ended_case(history))


def keeps(history):
    """The Keeps of all rooms, or the Breaks of the first order that breaks the own rule."""
    case = ended_case(history)
    rooms = rooms_of(case)
    return Breaks(first_break(case, case.deals)) if rooms is None else Keeps(rooms)
