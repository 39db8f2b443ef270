"""Stamps: numbers of deals that are one for all houses, and the orders by them."""

from ownseen.checks import are_integers, is_integer
from ownseen.errors import BadNumber, BadStamps, BadValue
from ownseen.histories import places_of, want_history
from ownseen.joins import Lax
from ownseen.orders import Fits, fits, holds_seen
from ownseen.own import Breaks
from ownseen.weaves import histories_of, want_weave


def are_stamps(value, many):
    """Whether any value is a row of so many unlike integers."""
    return are_integers(value) and len(value) == many and len(set(value)) == many


def stamp_rows(deals, stamps):
    """For each of the deals its stamp."""
    return {deal: stamp for deal, stamp in zip(deals, stamps)}


class Stamped:
    """A history with a stamp for each deal of it; beside what is told, by_deal keeps them by the deals."""

    def __init__(self, history, stamps):
        want_history(history)
        if not are_stamps(stamps, len(history.deals)):
            raise BadStamps("stamps")
        self.history = history
        self.stamps = tuple(stamps)
        self.by_deal = stamp_rows(history.deals, stamps)

    def __eq__(self, other):
        return isinstance(other, Stamped) and self.history == other.history and self.stamps == other.stamps


def want_stamped(stamped):
    """Raises BadValue for what is no stamped history."""
    if not isinstance(stamped, Stamped):
        raise BadValue("stamped")


def in_order(deals, by_deal):
    """The deals by their stamps, lesser ones first."""
    rows = sorted([(by_deal[deal], deal) for deal in deals])
    return tuple([row[1] for row in rows])


def by_stamps(stamped):
    """The order by stamps."""
    want_stamped(stamped)
    return in_order(stamped.history.ended, stamped.by_deal)


def kept_by_stamps(stamped):
    """The Fits of the order by stamps if it fits, otherwise the Breaks of it."""
    order = by_stamps(stamped)
    return Fits(order) if fits(stamped.history, order) else Breaks(order)


def is_late(stamped):
    """Whether the order by stamps holds what is seen."""
    order = by_stamps(stamped)
    return holds_seen(stamped.history, order)


def floor_of(stamped, deal):
    """The greatest stamp of the ended deals that the deal has seen, None if there is none."""
    want_stamped(stamped)
    history = stamped.history
    if not is_integer(deal) or deal not in history.deals:
        raise BadNumber("deal")
    yes_at = places_of(history, "yes")
    saw_at = [at for at, event in enumerate(history.events) if event[0] in ("answer", "ready") and event[1] == deal]
    seen = [stamped.by_deal[other] for other in yes_at if saw_at and yes_at[other] < saw_at[-1]]
    return max(seen, default=None)


def joined_by(weave, stamps):
    """The Fits of the order by stamps, or the Lax of the first house at which it does not fit."""
    want_weave(weave)
    if not are_stamps(stamps, len(weave.deals)):
        raise BadStamps("stamps")
    histories = histories_of(weave)
    by_deal = stamp_rows(weave.deals, stamps)
    for house, history in enumerate(histories):
        order = in_order(history.ended, by_deal)
        if not fits(history, order):
            return Lax(house, order)
    return Fits(in_order(weave.ended, by_deal))


def stamped_part(history, by_deal):
    """The history with the stamps of its deals; by_deal has perhaps those of others, too."""
    return Stamped(history, [by_deal[deal] for deal in history.deals])
