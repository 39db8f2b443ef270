"""Houses that keep their own rule, put together: the one order that fits at all of them."""

from ownseen.cases import least_order
from ownseen.checks import is_row
from ownseen.courses import MOST_EVENTS
from ownseen.errors import BadValue, Misfit, TooMany
from ownseen.guards import MOST_HOUSES, want_few
from ownseen.histories import History, seen_of
from ownseen.orders import Fits
from ownseen.own import keeps
from ownseen.papers import Denial
from ownseen.weaves import histories_of, last_order, want_weave


class Lax(Denial):
    """A house that breaks its own rule, and the order that shows it."""

    def __init__(self, house, order):
        super().__init__("lax", house, order)
        self.house = self.parts[0]
        self.order = self.parts[1]


class Ring(Denial):
    """Deals each of which is seen ahead of the next one, the last one ahead of the first, and where."""

    def __init__(self, deals, houses):
        super().__init__("ring", deals, houses)
        self.deals = self.parts[0]
        self.houses = self.parts[1]


def want_few_each(histories):
    """Raises TooMany if in one of the histories too many deals are ended."""
    for history in histories:
        want_few(history.ended)


def first_lax(histories):
    """The Lax of the first of the histories that breaks the own rule, None if there is none."""
    for house, history in enumerate(histories):
        paper = keeps(history)
        if not paper:
            return Lax(house, paper.order)
    return None


def woven(weave):
    """The histories of a weave, none of them too long, or with too many ended deals."""
    want_weave(weave)
    histories = histories_of(weave)
    want_few_each(histories)
    return histories


def joined(weave):
    """The Fits of the order by the last readies, or the Lax of the first house that breaks its rule."""
    lax = first_lax(woven(weave))
    return Fits(last_order(weave)) if lax is None else lax


def are_histories(value):
    """Whether it is a row of one to four histories."""
    if not is_row(value) or not 1 <= len(value) <= MOST_HOUSES:
        return False
    return all([isinstance(history, History) for history in value])


def all_ended(histories):
    """The lot of the deals that are ended in some history."""
    return tuple(sorted({deal for history in histories for deal in history.ended}))


def go_together(histories):
    """Whether each deal with a yes is ended or ready in each history in which it occurs."""
    ended = all_ended(histories)
    for history in histories:
        for deal in history.deals:
            if deal in ended and deal not in history.ended and deal not in history.readied:
                return False
    return True


def all_events(history, ended):
    """The events of the history, and a yes for each of its ready deals that is one of these."""
    return list(history.events) + [("yes", deal) for deal in history.readied if deal in ended]


def completed(histories):
    """The tuple of the histories, completed."""
    if not are_histories(histories):
        raise BadValue("histories")
    if not go_together(histories):
        raise Misfit("histories")
    ended = all_ended(histories)
    rows = [all_events(history, ended) for history in histories]
    if any([len(events) > MOST_EVENTS for events in rows]):
        raise TooMany("events", MOST_EVENTS)
    return tuple([History(history.kind, events) for history, events in zip(histories, rows)])


def completed_few(histories):
    """The histories, completed; raises TooMany if in one of them too many deals are ended."""
    done = completed(histories)
    want_few_each(done)
    return done


def houses_of(histories):
    """For each pair that is seen in some history the number of the first one in which it is."""
    houses = {}
    for house, history in enumerate(histories):
        for pair in seen_of(history):
            houses.setdefault(pair, house)
    return houses


def ring_from(pairs, start):
    """The shortest ring along the pairs that begins with the deal, of such the least; None without one."""
    ways = {start: (start,)}
    queue = [start]
    at = 0
    # Deals join the queue in the order of their ways, so the first that closes the ring is the one.
    while at < len(queue):
        deal = queue[at]
        at += 1
        if (deal, start) in pairs:
            return ways[deal]
        for one, to in sorted(pairs):
            if one == deal and to not in ways:
                ways[to] = ways[deal] + (to,)
                queue.append(to)
    return None


def least_ring(pairs, deals):
    """The shortest ring along the pairs, of such the least; None if nothing goes round."""
    rings = [ring_from(pairs, deal) for deal in deals]
    sized = [(len(ring), ring) for ring in rings if ring is not None]
    return min(sized)[1] if sized else None


def links_of(ring):
    """The pairs of each deal of the ring and the next one."""
    return list(zip(ring, ring[1:] + ring[:1]))


def agreed(histories):
    """The Fits of the least order of the histories, completed, or what stands against it."""
    done = completed_few(histories)
    deals = all_ended(done)
    houses = houses_of(done)
    ring = least_ring(houses, deals)
    if ring is not None:
        return Ring(ring, [houses[pair] for pair in links_of(ring)])
    lax = first_lax(done)
    if lax is not None:
        return lax
    ahead = {deal: [one for one, other in houses if other == deal] for deal in deals}
    return Fits(least_order(ahead, deals, ()))
