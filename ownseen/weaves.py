"""Weaves: the events of one to four houses, and the orders that fit at all of them."""

from ownseen.boards import Board, order_or_bars, stuck_at
from ownseen.checks import is_order, is_row, is_within
from ownseen.courses import MOST_EVENTS, Course, works_of
from ownseen.errors import BadEvents, BadKind, BadOrder, BadValue, TooMany
from ownseen.guards import MOST_HOUSES, want_few, want_number
from ownseen.histories import History
from ownseen.kinds import Kind
from ownseen.orders import Bars, Fits


def are_kinds(value):
    """Whether it is a row of one to four kinds."""
    if not is_row(value) or not 1 <= len(value) <= MOST_HOUSES:
        return False
    return all([isinstance(kind, Kind) for kind in value])


def without_house(event):
    """The event as its house has it."""
    return (event[0], *event[2:])


def takes(course, event):
    """Whether the event, any value, can stand in the weave; then it came."""
    if not is_row(event) or len(event) < 2:
        return False
    if not is_within(event[1], 0, len(course.kinds) - 1):
        return False
    return course.takes(event[1], without_house(event))


class Weave:
    """The events of one to four houses, in the order in which they came."""

    def __init__(self, kinds, events):
        if not are_kinds(kinds):
            raise BadKind("kinds")
        if not is_row(events):
            raise BadEvents(0)
        course = Course(tuple(kinds))
        for place, event in enumerate(events):
            if not takes(course, event):
                raise BadEvents(place)
        self.kinds = tuple(kinds)
        self.events = tuple([tuple(event) for event in events])
        self.deals = course.all_deals()
        self.ended = course.deals_in(("yes",))

    def __eq__(self, other):
        return isinstance(other, Weave) and self.kinds == other.kinds and self.events == other.events


def want_weave(weave):
    """Raises BadValue for what is no weave."""
    if not isinstance(weave, Weave):
        raise BadValue("weave")


def events_at(weave, house):
    """The events at the house, and behind them the yeses that only came elsewhere."""
    events = [without_house(event) for event in weave.events if event[1] == house]
    here = [event[1] for event in events]
    told = [event[1] for event in events if event[0] == "yes"]
    return events + [("yes", deal) for deal in weave.ended if deal in here and deal not in told]


def at(weave, house):
    """The history that the weave is at the house."""
    want_weave(weave)
    want_number(house, len(weave.kinds), "house")
    events = events_at(weave, house)
    if len(events) > MOST_EVENTS:
        raise TooMany("events", MOST_EVENTS)
    return History(weave.kinds[house], events)


def is_told(weave):
    """Whether at tells a history for each house."""
    return all([len(events_at(weave, house)) <= MOST_EVENTS for house in range(len(weave.kinds))])


def histories_of(weave):
    """The histories that the weave is at its houses."""
    return [at(weave, house) for house in range(len(weave.kinds))]


def last_order(weave):
    """The ended deals by their last readies, at whatever house."""
    want_weave(weave)
    readies = [event[2] for event in weave.events if event[0] == "ready" and event[2] in weave.ended]
    return tuple([deal for place, deal in enumerate(readies) if deal not in readies[place + 1:]])


def boards_of(weave):
    """A board of the ended deals for each house, however long its history is."""
    return [
        Board(kind, works_of(events_at(weave, house)), weave.ended) for house, kind in enumerate(weave.kinds)
    ]


def fits_all(weave, order):
    """Whether the order fits at each house."""
    want_weave(weave)
    if not is_order(order, weave.ended):
        raise BadOrder("order")
    return stuck_at(boards_of(weave), order) is None


def order_of_all(weave):
    """The Fits of the least order that fits, or the Bars of all orders, with their houses."""
    want_weave(weave)
    want_few(weave.ended)
    order, bars = order_or_bars(boards_of(weave), weave.ended)
    return Bars(bars) if order is None else Fits(order)
