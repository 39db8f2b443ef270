"""What the tests share: wrong values, kinds and events made in many ways, and plain references.

The references look along lists, as the document's words do, and share no code with the package.
"""

import random
import time
import unittest
from itertools import combinations, permutations

from ownseen.errors import SeenError
from ownseen.kinds import Kind
from ownseen.makers import bag, chest, counter, line, pile, purse, shelf, tickets
from ownseen.papers import Denial, Paper

NO_NUMBERS = (True, False, None, "0", "", 0.0, 1.0, b"0", (), [], [0], (0,), {}, {0: 0}, object())
NO_ROWS = (True, False, None, 0, 1, "", "ab", b"ab", 1.5, {}, {0: 1}, {0}, object(), iter(()))
NO_OBJECTS = (True, False, None, 0, 1, "box", b"", 1.5, [], (), {}, object(), Kind, Paper("kind"), Denial("history"))
SHORT_TIME = 5.0


class SeenTest(unittest.TestCase):
    """A test that looks at errors exactly."""

    def assert_raises(self, error, function, *given, **named):
        with self.assertRaises(SeenError) as caught:
            function(*given, **named)
        self.assertIs(type(caught.exception), type(error), (given, named))
        self.assertEqual(vars(caught.exception), vars(error), (given, named))

    def assert_faults(self, function, right, faults):
        """Each fault (name, wrong values, error) by place and by name, then each two of them.

        The faults stand in the order in which their errors come.
        """
        function(**right)
        for name, wrongs, error in faults:
            for wrong in wrongs:
                given = {**right, name: wrong}
                self.assert_raises(error, function, **given)
                self.assert_raises(error, function, *given.values())
        for (name, wrongs, error), (behind, others, _) in combinations(faults, 2):
            for wrong in wrongs[:6]:
                for other in others[:6]:
                    if name != behind:
                        self.assert_raises(error, function, **{**right, name: wrong, behind: other})

    def assert_short(self, function, *given):
        """The answer, which is to come in a short time."""
        start = time.perf_counter()
        told = function(*given)
        self.assertLess(time.perf_counter() - start, SHORT_TIME)
        return told


def strict(value):
    """The value with lists for tuples, and with the class beside each number and word."""
    if isinstance(value, (list, tuple)):
        return [strict(one) for one in value]
    return (type(value).__name__, repr(value))


def listed(value):
    """The value with lists in the place of tuples, all the way in."""
    return [listed(one) for one in value] if isinstance(value, (list, tuple)) else value


def bends(value):
    """The value, of tuples, integers and words, bent in one place, in many ways."""
    if isinstance(value, (list, tuple)):
        rows = list(value)
        for at, one in enumerate(rows):
            yield rows[:at] + rows[at + 1:]
            yield rows[:at] + [one] + rows[at:]
            for bent in bends(one):
                yield rows[:at] + [bent] + rows[at + 1:]
        for at in range(len(rows) - 1):
            yield rows[:at] + [rows[at + 1], rows[at]] + rows[at + 2:]
        for extra in ((), 0, [0], None):
            yield rows + [extra]
        yield from (None, 0, True, "", {}, {0: 1}, 1.5)
    elif isinstance(value, str):
        yield from (value + "s", value[1:], value.upper(), "", None, 0, True, [value], value.encode())
    else:
        yield from (value + 1, value - 1, bool(value), None, str(value), float(value), [value], ())


# Kinds.

def some_kind(dice, states=4, asks=2, answers=3, sure=False):
    """A kind with at most so many of each, its states perhaps not all reachable."""
    states, asks, answers = dice.randint(1, states), dice.randint(1, asks), dice.randint(1, answers)
    rows = []
    for state in range(states):
        for ask in range(asks):
            many = 1 if sure else dice.choice([1, 1, 2, 3])
            for answer in dice.sample(range(answers), min(many, answers)):
                rows.append((state, ask, answer, dice.randrange(states)))
    words = ["a", "b", "c", "d"]
    return Kind(words[:asks], words[:answers], states, dice.randrange(states), sorted(rows))


def some_kinds(seed, many):
    """Kinds made in many ways, sure ones and others."""
    dice = random.Random(seed)
    return [some_kind(dice, sure=bool(number % 2)) for number in range(many)]


def made_kinds():
    """Small kinds by the makers."""
    return [purse(2, 1), tickets(3), counter(2), chest(2), shelf(3, 1), line(2, 2), pile(2, 2), bag(2, 2)]


def great_kind(seed=1):
    """60 states, 600 rows, every ask possible with both answers everywhere, all ways one to one."""
    dice = random.Random(seed)
    rows = []
    for ask in range(5):
        for answer in range(2):
            nexts = list(range(60))
            dice.shuffle(nexts)
            rows.extend((state, ask, answer, nexts[state]) for state in range(60))
    return Kind(["a", "b", "c", "d", "e"], ["x", "y"], 60, 0, sorted(rows))


def step(kind, state, work):
    """The next state by a look along the rows, None if there is none."""
    for row in kind.rows:
        if row[:3] == (state, work[0], work[1]):
            return row[3]
    return None


def play(kind, state, works):
    """The state behind the operations, None if they cannot be played."""
    for work in works:
        if state is None:
            return None
        state = step(kind, state, work)
    return state


def all_works(kind):
    """All operations of a kind, possible or not, ascending."""
    return [(ask, answer) for ask in range(len(kind.asks)) for answer in range(len(kind.answers))]


def lists_from(kind, state, most):
    """All lists of at most so many operations that can be played, shorter ones first, then ascending."""
    lists = [()]
    longest = [()]
    for _ in range(most):
        longest = [told + (work,) for told in longest for work in all_works(kind)
                   if play(kind, state, told + (work,)) is not None]
        lists.extend(longest)
    return lists


def can_all_pairs(kind):
    """All pairs (one, other) of states of which other can all that one can, by taking pairs away."""
    pairs = {(one, other) for one in range(kind.states) for other in range(kind.states)}
    while True:
        left = {pair for pair in pairs if all(
            step(kind, pair[0], work) is None
            or (step(kind, pair[0], work), step(kind, pair[1], work)) in pairs
            for work in all_works(kind)
        )}
        if left == pairs:
            return pairs
        pairs = left


# Histories and weaves.

def history_stands(kind, ahead, event):
    """Whether an event of the right form can stand behind those ahead."""
    words = [other[0] for other in ahead if other[1] == event[1]]
    unanswered = words.count("ask") > words.count("answer")
    if len(ahead) >= 120:
        return False
    if event[0] == "ask":
        return not {"ready", "yes", "no"} & set(words) and not unanswered
    if event[0] == "answer":
        return unanswered and "no" not in words
    if event[0] == "ready":
        return not {"ready", "yes", "no"} & set(words) and not unanswered
    if event[0] == "yes":
        return "ready" in words and not {"yes", "no"} & set(words)
    return not {"yes", "no"} & set(words)


def bare(event):
    """An event of a weave as its house has it."""
    return (event[0],) + tuple(event[2:])


def weave_stands(kinds, ahead, event):
    """Whether an event of the right form, of a house that there is, can stand in a weave."""
    word, house, deal = event[:3]
    if not history_stands(kinds[house], [bare(other) for other in ahead if other[1] == house], bare(event)):
        return False
    mine = [(other[0], other[1]) for other in ahead if other[2] == deal]
    words = [other[0] for other in mine]
    houses = range(len(kinds))
    unanswered = [at for at in houses if ("no", at) not in mine
                  and mine.count(("ask", at)) > mine.count(("answer", at))]
    if "yes" in words and word != "yes":
        return False
    if word in ("ask", "answer") and "ready" in words:
        return False
    if word in ("ask", "ready") and unanswered:
        return False
    if word == "yes":
        return "no" not in words and all(("ready", at) in mine for at in houses if ("answer", at) in mine)
    return True


def all_events(kind, deals, house=None):
    """All events of the deals at a house of the kind; with the house behind the word if one is told."""
    events = []
    for deal in deals:
        events.extend(("ask", deal, ask) for ask in range(len(kind.asks)))
        events.extend(("answer", deal, answer) for answer in range(len(kind.answers)))
        events.extend((word, deal) for word in ("ready", "yes", "no"))
    return events if house is None else [(event[0], house) + event[1:] for event in events]


def likely_answer(dice, kind, ahead, deal):
    """An answer that is possible behind all that was done ahead, or now and then any one."""
    ask = [event[2] for event in ahead if event[:2] == ("ask", deal)][-1]
    state, asked = kind.first, {}
    for event in ahead:
        if event[0] == "ask":
            asked[event[1]] = event[2]
        elif event[0] == "answer":
            state = step(kind, state, (asked[event[1]], event[2])) if state is not None else None
    told = [answer for answer in range(len(kind.answers)) if state is not None and step(kind, state, (ask, answer)) is not None]
    return dice.choice(told) if told and dice.random() < 0.8 else dice.randrange(len(kind.answers))


WORDS = ("ask", "ask", "answer", "answer", "answer", "ready", "ready", "yes", "yes", "no")


def some_events(dice, kind, deals, many):
    """Events of a history of these deals, so many at most."""
    events = []
    for _ in range(many * 4):
        word, deal = dice.choice(WORDS), dice.choice(deals)
        if word == "no" and dice.random() < 0.8:
            continue
        event = (word, deal)
        if word == "ask":
            event = (word, deal, dice.randrange(len(kind.asks)))
        if word == "answer":
            event = (word, deal, 0)
        if len(events) < many and history_stands(kind, events, event):
            if word == "answer":
                event = (word, deal, likely_answer(dice, kind, events, deal))
            events.append(event)
    return events


def some_weave_events(dice, kinds, deals, many):
    """Events of a weave of these deals, so many at most."""
    events = []
    for _ in range(many * 6):
        word, house, deal = dice.choice(WORDS), dice.randrange(len(kinds)), dice.choice(deals)
        if word == "no" and dice.random() < 0.9:
            continue
        event = (word, house, deal)
        if word == "ask":
            event += (dice.randrange(len(kinds[house].asks)),)
        if word == "answer":
            event += (0,)
        if len(events) < many and weave_stands(kinds, events, event):
            if word == "answer":
                own = [bare(other) for other in events if other[1] == house]
                event = (word, house, deal, likely_answer(dice, kinds[house], own, deal))
            events.append(event)
    return events


def fitting_events(dice, kind, deals, most=3):
    """Events of deals that fit in some order, mixed; now and then one answer is changed, a deal left open."""
    order, state, rows = list(deals), kind.first, []
    dice.shuffle(order)
    for deal in order:
        row = []
        for _ in range(dice.randint(0, most)):
            told = dice.choice([other for other in kind.rows if other[0] == state])
            state = told[3]
            answer = told[2] if dice.random() < 0.95 else dice.randrange(len(kind.answers))
            row += [("ask", deal, told[1]), ("answer", deal, answer)]
        ends = [("ready", deal), ("yes", deal)]
        rows.append(row + ends[:dice.choice([2, 2, 2, 2, 2, 2, 1, 0])])
    return mixed(dice, rows)


def mixed(dice, rows):
    """The events of all rows, each row in its order."""
    rows, events = [list(row) for row in rows], []
    while any(rows):
        row = dice.choice([told for told in rows if told])
        for _ in range(dice.choice([1, 1, 2, 9])):
            if row:
                events.append(row.pop(0))
    return events


def fitting_weave_events(dice, kinds, deals, most=2):
    """Events of deals that fit in some order at each house, mixed; perhaps in no order at all houses."""
    rows = {deal: [] for deal in deals}
    for house, kind in enumerate(kinds):
        order, state = list(deals), kind.first
        if dice.random() < 0.3:
            dice.shuffle(order)
        for deal in order:
            for _ in range(dice.randint(0, most)):
                told = dice.choice([other for other in kind.rows if other[0] == state])
                state = told[3]
                rows[deal].append([("ask", house, deal, told[1]), ("answer", house, deal, told[2])])
    for deal in deals:
        houses = sorted({pair[0][1] for pair in rows[deal]} | {dice.randrange(len(kinds))})
        rows[deal] = [event for pair in rows[deal] for event in pair]
        rows[deal] += [("ready", house, deal) for house in dice.sample(houses, len(houses))]
        yeses = dice.sample(houses, dice.randint(0 if dice.random() < 0.2 else 1, len(houses)))
        rows[deal] += [("yes", house, deal) for house in yeses]
    return mixed(dice, rows.values())


def some_histories(seed, many, deals=(0, 1, 2, 7, 11), length=26, kinds=()):
    """Histories made in many ways, as pairs of kind and events."""
    dice = random.Random(seed)
    told = []
    for number in range(many):
        kind = dice.choice(kinds) if kinds and number % 2 else some_kind(dice, sure=bool(dice.randrange(2)))
        some = sorted(dice.sample(deals, dice.randint(1, len(deals))))
        if number % 3:
            told.append((kind, fitting_events(dice, kind, some)))
        else:
            told.append((kind, some_events(dice, kind, some, dice.randint(0, length))))
    return told


def ended(works, sure=True):
    """Events by which deals (a row of works for each) are answered, then all ready, then have their yes."""
    events = []
    for deal, told in works.items():
        for ask, answer in told:
            events += [("ask", deal, ask), ("answer", deal, answer)]
    events += [("ready", deal) for deal in works]
    return events + [("yes", deal) for deal in works] if sure else events


def works_by(events, deal):
    """The operations of a deal, its asks paired with its answers."""
    asks = [event[2] for event in events if event[:2] == ("ask", deal)]
    answers = [event[2] for event in events if event[:2] == ("answer", deal)]
    return tuple(zip(asks, answers))


def deals_with(events, word):
    """The lot of deals that have such an event."""
    return tuple(sorted({event[1] for event in events if event[0] == word}))


def seen_pairs(events):
    """All pairs that are seen, ascending."""
    ended = deals_with(events, "yes")
    pairs = set()
    for at, event in enumerate(events):
        if event[0] == "yes":
            for later in events[at + 1:]:
                if later[0] in ("answer", "ready") and later[1] in ended and later[1] != event[1]:
                    pairs.add((event[1], later[1]))
    return tuple(sorted(pairs))


def plain_left(kind, events, order):
    """The state that an order, or a beginning of one, leaves, None if it cannot be played."""
    return play(kind, kind.first, [work for deal in order for work in works_by(events, deal)])


def plain_holds(events, order):
    """Whether an order of all or some ended deals holds what is seen of them."""
    return all(order.index(one) < order.index(other)
               for one, other in seen_pairs(events) if one in order and other in order)


def plain_bars(kind, events):
    """The shortest beginnings that do not fit of all orders that do not fit, ascending."""
    bars = set()
    for order in permutations(deals_with(events, "yes")):
        for many in range(len(order) + 1):
            if plain_left(kind, events, order[:many]) is None:
                bars.add(order[:many])
                break
    return tuple(sorted(bars))


def plain_break(kind, events):
    """The first order that holds what is seen and does not fit, None if there is none."""
    for order in permutations(deals_with(events, "yes")):
        if plain_holds(events, order) and plain_left(kind, events, order) is None:
            return order
    return None


def plain_lots(deals):
    """All lots, shorter ones first, those of one length ascending."""
    return [lot for many in range(len(deals) + 1) for lot in sorted(combinations(deals, many))]


def plain_closed(events):
    """All closed lots in their order."""
    seen = seen_pairs(events)
    return tuple(lot for lot in plain_lots(deals_with(events, "yes"))
                 if all(one in lot for one, other in seen if other in lot))


def plain_rooms(kind, events):
    """The pairs of each closed lot and the lot of the states that its orders leave."""
    rooms = []
    for lot in plain_closed(events):
        states = {plain_left(kind, events, order) for order in permutations(lot) if plain_holds(events, order)}
        rooms.append((lot, tuple(sorted(states))))
    return tuple(rooms)


# Papers, looked at by the test itself.

def is_plain_lot(value, many):
    """Whether it is a lot of numbers below many."""
    if not isinstance(value, (list, tuple)) or not all(type(one) is int and 0 <= one < many for one in value):
        return False
    return list(value) == sorted(set(value))


def is_plain_order(value, deals):
    """Whether it is a row of these deals, each once."""
    return strict(value) in [strict(order) for order in permutations(deals)]


def is_plain_break(kind, events, order):
    """Whether any value is an order of all ended deals that holds what is seen and does not fit."""
    if not is_plain_order(order, deals_with(events, "yes")):
        return False
    return plain_holds(events, list(order)) and plain_left(kind, events, order) is None


def are_plain_rooms(kind, events, closed, rooms):
    """Whether any value has a lot of states for each of the closed lots, out of which no deal leads, or sticks."""
    if not isinstance(rooms, (list, tuple)) or len(rooms) != len(closed):
        return False
    for lot, row in zip(closed, rooms):
        if not isinstance(row, (list, tuple)) or len(row) != 2 or strict(row[0]) != strict(lot):
            return False
        if not is_plain_lot(row[1], kind.states):
            return False
    told = {tuple(lot): room for lot, room in rooms}
    for lot in closed:
        for deal in lot:
            for state in told.get(tuple(other for other in lot if other != deal), ()):
                if play(kind, state, works_by(events, deal)) not in told[lot]:
                    return False
    return kind.first in told[()]


def wider(dice, rooms, states):
    """The pairs of lots, each second one with some more states."""
    return [(lot, sorted(set(room) | {state for state in range(states) if dice.random() < 0.3})) for lot, room in rooms]


# Stamps.

GREAT = 10 ** 50 - 1


def some_stamps(dice, many):
    """So many unlike integers: small ones, or ones of fifty digits, of either sign."""
    reach = dice.choice((many + 1, 30, GREAT))
    stamps = {}
    while len(stamps) < many:
        stamps[dice.randint(-reach, reach)] = True
    rows = list(stamps)
    dice.shuffle(rows)
    return rows


def late_stamps(dice, seen, deals):
    """Stamps of these deals, in their order, that hold what is seen."""
    stamps, left, told = sorted(some_stamps(dice, len(deals))), list(deals), {}
    for stamp in stamps:
        deal = dice.choice([deal for deal in left if not any(other == deal and one in left for one, other in seen)])
        left.remove(deal)
        told[deal] = stamp
    return [told[deal] for deal in deals]


def stamped_rows(seed, histories, late=0.5):
    """Triples (kind, events, stamps), the stamps of all deals that occur, ascending."""
    dice = random.Random(seed)
    told = []
    for kind, events in histories:
        deals = sorted({event[1] for event in events})
        stamps = late_stamps(dice, seen_pairs(events), deals) if dice.random() < late else some_stamps(dice, len(deals))
        told.append((kind, events, stamps))
    return told


def by_deals(events, stamps):
    """For each deal of the events its stamp."""
    return dict(zip(sorted({event[1] for event in events}), stamps))


def plain_by_stamps(deals, by_deal):
    """The deals, lesser stamps first, by looking for the least one again and again."""
    left, order = list(deals), []
    while left:
        least = left[0]
        for deal in left:
            if by_deal[deal] < by_deal[least]:
                least = deal
        left.remove(least)
        order.append(least)
    return tuple(order)


def ready_deals(events):
    """The deals that are open and ready."""
    return tuple(deal for deal in deals_with(events, "ready") if deal not in deals_with(events, "yes") + deals_with(events, "no"))


def free_deals(events):
    """The deals that are open, not ready, and have nothing unanswered."""
    found = []
    for deal in sorted({event[1] for event in events}):
        words = [event[0] for event in events if event[1] == deal]
        if not {"ready", "yes", "no"} & set(words) and words[-1] != "ask":
            found.append(deal)
    return found


def opened_some(dice, events):
    """The events, some yeses left out, and one deal open and not ready where there is one."""
    events = [event for event in events if event[0] != "yes" or dice.random() < 0.5]
    some = dice.choice(sorted({event[1] for event in events}) or [0])
    return [event for event in events if event[1] != some or event[0] not in ("ready", "yes", "no")]


def lots_with(events, deal):
    """All lots of the ready deals and this one that have it."""
    return [lot for lot in plain_lots(tuple(sorted(ready_deals(events) + (deal,)))) if deal in lot]


def early_spoilt(kind, events, by_deal, deal):
    """The first lot, and its order by stamps, that does not fit in the early world; None if the deal is let."""
    for lot in lots_with(events, deal):
        order = plain_by_stamps(deals_with(events, "yes") + lot, by_deal)
        if plain_left(kind, events, order) is None:
            return lot, order
    return None


def early_states(kind, events, by_deal, deal):
    """For each number of deals the states that the first so many leave, over all lots."""
    ended, lots = deals_with(events, "yes"), lots_with(events, deal)
    row = plain_by_stamps(ended + lots[-1], by_deal)
    return tuple(
        tuple(sorted({plain_left(kind, events, [told for told in row[:many] if told in ended + lot]) for lot in lots}))
        for many in range(len(row) + 1)
    )


def late_orders(events, by_deal, deal, lot):
    """All orders of the ended deals and a lot that the late world allows, the deal's ready put behind."""
    ended = deals_with(events, "yes")
    behind = events + [("ready", deal)] + [("yes", told) for told in lot]
    return [
        order for order in permutations(sorted(ended + lot))
        if plain_holds(behind, order) and tuple(told for told in order if told in ended) == plain_by_stamps(ended, by_deal)
    ]


def late_spoilt(kind, events, by_deal, deal):
    """The first lot, and the least order of it, that does not fit in the late world; None if the deal is let."""
    for lot in lots_with(events, deal):
        for order in late_orders(events, by_deal, deal, lot):
            if plain_left(kind, events, order) is None:
                return lot, order
    return None


def late_closed(events, by_deal, deal):
    """The lots that are closed by stamps."""
    ended, ready = deals_with(events, "yes"), lots_with(events, deal)[-1]
    seen = seen_pairs(events + [("ready", deal)] + [("yes", told) for told in ready])
    pairs = [(one, other) for one in ended for other in ended if by_deal[one] < by_deal[other]] + list(seen)
    return [lot for lot in plain_lots(tuple(sorted(ended + ready)))
            if all(one in lot for one, other in pairs if other in lot)]


def late_states(kind, events, by_deal, deal):
    """For each lot closed by stamps the pair of it and of the states that its orders leave."""
    ended, ready = deals_with(events, "yes"), lots_with(events, deal)[-1]
    whole = late_orders(events, by_deal, deal, ready)
    return tuple(
        (lot, tuple(sorted({plain_left(kind, events, order[:len(lot)]) for order in whole if set(order[:len(lot)]) == set(lot)})))
        for lot in late_closed(events, by_deal, deal)
    )


def right_along(kind, events, by_deal, spoilt):
    """Whether each ready deal was let when its ready came; spoilt tells what is not let."""
    return all(
        spoilt(kind, events[:at], by_deal, event[1]) is None for at, event in enumerate(events) if event[0] == "ready"
    )

def let_only(kind, events, by_deal, spoilt):
    """The events, without those of deals that are not let when their ready comes, from there on."""
    kept, off = [], set()
    for event in events:
        if event[1] not in off:
            if event[0] == "ready" and spoilt(kind, kept, by_deal, event[1]) is not None:
                off.add(event[1])
            else:
                kept.append(event)
    return kept


# Operations that are turned round, and logs.

def plain_reachable(kind):
    """The states that can be reached, by going on until nothing is new."""
    found = {kind.first}
    while True:
        more = found | {row[3] for row in kind.rows if row[0] in found}
        if more == found:
            return tuple(sorted(found))
        found = more


def pairs_on(kind, pairs):
    """The pairs, and all to which an operation leads from both of one, ascending."""
    pairs = set(pairs)
    while True:
        more = {(step(kind, one, work), step(kind, other, work)) for one, other in pairs for work in all_works(kind)}
        more = pairs | {pair for pair in more if None not in pair}
        if more == pairs:
            return tuple(sorted(pairs))
        pairs = more


def back_pairs(kind, new, held, states):
    """For each of the states from which held, new can be played, the states behind both ways round."""
    told = [(play(kind, state, (held, new)), play(kind, state, (new, held))) for state in states]
    return [pair for pair in told if pair[0] is not None]


def beside_pairs(kind, one, other, states):
    """For each of the states from which both are possible, the states behind both ways round, and turned round."""
    told = [
        (play(kind, state, (one, other)), play(kind, state, (other, one))) for state in states
        if step(kind, state, one) is not None and step(kind, state, other) is not None
    ]
    return told + [pair[::-1] for pair in told]


def plain_clash(kind, way, new, held, can_all):
    """Whether a table must have the pair; can_all has the pairs of which the other can all that the one can."""
    pairs = back_pairs if way == "in place" else beside_pairs
    return not all(pair in can_all for pair in pairs(kind, new, held, plain_reachable(kind)))


def plain_table(kind, way):
    """All pairs of operations that a table must have, ascending."""
    can_all = can_all_pairs(kind)
    return tuple((new, held) for new in all_works(kind) for held in all_works(kind) if plain_clash(kind, way, new, held, can_all))


def chain(states):
    """A kind that goes up from 0, and tells when it is at its end."""
    return Kind(["go"], ["ok", "end"], states, 0, [
        (state, 0, 0, state + 1) if state < states - 1 else (state, 0, 1, state) for state in range(states)
    ])


def two_chains(states):
    """Two sides, a and b, which only the end of a way of so many states tells; each side can be set again."""
    rows = []
    for side in (0, 1):
        for place in range(states):
            state = side * states + place
            rows += [(state, 0, 0, 0), (state, 1, 0, states)]
            rows.append((state, 2, 0, state + 1) if place < states - 1 else (state, 2, 1 + side, state))
    return Kind(["a", "b", "go"], ["ok", "ina", "inb"], 2 * states, 0, sorted(rows))


def events_of_log(log):
    """The history of a log, event by event."""
    events = []
    for record in log:
        if record[0] == "do":
            events += [("ask", record[1], record[2]), ("answer", record[1], record[3])]
        else:
            events.append(tuple(record))
    return events


def log_stands(kind, log):
    """Whether the records, of the right forms, are a log."""
    events = events_of_log(log)
    return all(history_stands(kind, events[:place], event) for place, event in enumerate(events))


def deals_of_log(log, word):
    """The deals with such a record, in the order of these."""
    return [record[1] for record in log if record[0] == word]


def plain_view(kind, way, log, deal):
    """The view of a deal, None if there is none."""
    off = deals_of_log(log, "no")
    if way == "in place":
        return play(kind, kind.first, [record[2:] for record in log if record[0] == "do" and record[1] not in off])
    works = [record[2:] for told in deals_of_log(log, "yes") + [deal] for record in log if record[:2] == ("do", told)]
    return play(kind, kind.first, works)


def plain_may_answer(kind, way, table, log, deal, work):
    """Whether the answer may be given."""
    view = plain_view(kind, way, log, deal)
    if view is None or step(kind, view, work) is None:
        return False
    over = deals_of_log(log, "yes") + deals_of_log(log, "no")
    held = [record[2:] for record in log if record[0] == "do" and record[1] != deal and record[1] not in over]
    return way == "watched" or not any((work, other) in table for other in held)


def plain_let(kind, events, deal):
    """Whether the deal is let by the own rule."""
    behind = events + [("ready", deal)]
    return all(
        plain_break(kind, behind + [("yes", told) for told in lot]) is None
        for lot in plain_lots(ready_deals(behind)) if deal in lot
    )


def plain_may_ready(kind, way, log, deal):
    """Whether a ready of the deal may be told."""
    if way != "watched":
        return True
    events = events_of_log(log)
    many = len(deals_with(events, "yes")) + len(ready_deals(events))
    return deal in {event[1] for event in events} and many < 7 and plain_let(kind, events, deal)


def plain_stray(kind, way, table, log):
    """The index of the first record that may not stand where it stands, None without one."""
    for place, record in enumerate(log):
        ahead = log[:place]
        if record[0] == "do" and not plain_may_answer(kind, way, table, ahead, record[1], record[2:]):
            return place
        if record[0] == "ready" and not plain_may_ready(kind, way, ahead, record[1]):
            return place
    return None


def some_log(dice, kind, deals, many, way="", table=(), strays=1.0):
    """Records that stand, so many at most; those that may not be told by the way stay only now and then."""
    log = []
    for _ in range(many * 3):
        word, deal = dice.choice(("do", "do", "do", "ready", "yes", "yes", "no")), dice.choice(deals)
        if word == "no" and dice.random() < 0.7:
            continue
        record = (word, deal)
        if word == "do":
            record = (word, deal, dice.randrange(len(kind.asks)), dice.randrange(len(kind.answers)))
            view = plain_view(kind, way or "in place", log, deal)
            if view is not None and dice.random() < 0.9:
                record = (word, deal) + dice.choice([row[1:3] for row in kind.rows if row[0] == view])
        if len(log) < many and log_stands(kind, log + [record]):
            if way and plain_stray(kind, way, table, log + [record]) is not None and dice.random() > strays:
                continue
            log.append(record)
    return log
