"""Histories: the events of one house, and what is seen in them."""

from ownseen.checks import is_row
from ownseen.courses import Course, works_of
from ownseen.errors import BadEvents, BadValue
from ownseen.guards import want_deal
from ownseen.kinds import want_kind


class History:
    """The events of one house; beside what is told, works keeps the operations of each deal."""

    def __init__(self, kind, events):
        want_kind(kind)
        if not is_row(events):
            raise BadEvents(0)
        course = Course([kind])
        for at, event in enumerate(events):
            if not course.takes(0, event):
                raise BadEvents(at)
        self.kind = kind
        self.events = tuple([tuple(event) for event in events])
        self.deals = course.all_deals()
        self.ended = course.deals_in(("yes",))
        self.opened = course.deals_in(("asked", "answered", "ready"))
        self.readied = course.deals_in(("ready",))
        self.works = works_of(self.events)

    def __eq__(self, other):
        return isinstance(other, History) and self.kind == other.kind and self.events == other.events


def want_history(history):
    """Raises BadValue for what is no history."""
    if not isinstance(history, History):
        raise BadValue("history")


def operations(history, deal):
    """The operations of the deal, in order."""
    want_history(history)
    want_deal(deal)
    return history.works.get(deal, ())


def waiting(history, deal):
    """The ask of the deal that is not yet answered, None if there is none, or it is called off."""
    want_history(history)
    want_deal(deal)
    ask = None
    for event in history.events:
        if event[1] == deal:
            ask = event[2] if event[0] == "ask" else None
    return ask


def places_of(history, word):
    """For each deal that has a ready, a yes or a no, as the word tells, the index of this event."""
    return {event[1]: at for at, event in enumerate(history.events) if event[0] == word}


def ahead_of(history, deals):
    """For each of some deals that are ready or ended the lot of those that are seen ahead of it."""
    yes_at = places_of(history, "yes")
    ready_at = places_of(history, "ready")
    # The ready of a deal stands behind all its answers and ahead of its own yes: it tells all
    # that is seen ahead of the deal, and the deal itself is not among this.
    return {deal: tuple([other for other in history.ended if yes_at[other] < ready_at[deal]]) for deal in deals}


def seen_of(history):
    """All pairs of deals that are seen, ascending."""
    want_history(history)
    ahead = ahead_of(history, history.ended)
    return tuple(sorted([(other, deal) for deal in history.ended for other in ahead[deal]]))
