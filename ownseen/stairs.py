"""Stairs: houses that fit no order but that by early stamps."""

from ownseen.guards import want_within
from ownseen.histories import places_of
from ownseen.kinds import Kind
from ownseen.makers import named
from ownseen.papers import Paper
from ownseen.stamps import by_stamps
from ownseen.torn import doubled, want_some_ended


class StampTorn(Paper):
    """A weave that fits no order, and the stamps of its deals."""

    def __init__(self, weave, stamps):
        super().__init__("stamptorn", weave, stamps)
        self.weave = self.parts[0]
        self.stamps = self.parts[1]


def stair(many):
    """A stair of so many steps; none can be taken behind it or a higher one."""
    want_within(many, 1, 8, "many")
    rows = []
    for state in range(many + 1):
        rows.extend([(state, step, 0, step + 1) if step >= state else (state, step, 1, state) for step in range(many)])
    return Kind(named("s", many), ["ok", "late"], many + 1, 0, rows)


def with_stair(history, order):
    """The weave of the history and of a stair that the ended deals go up in this order."""
    ready_at = places_of(history, "ready")
    asked = []
    for step, deal in enumerate(order):
        asked.extend([("ask", 1, deal, step), ("answer", 1, deal, 0)])
    return doubled(history, stair(len(order)), asked, [(ready_at[deal], deal) for deal in order])


def stair_weave(stamped):
    """The weave of the history and of a stair that the ended deals go up by their stamps."""
    order = by_stamps(stamped)
    want_some_ended(stamped.history)
    return with_stair(stamped.history, order)
