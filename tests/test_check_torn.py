"""Papers about what tears a history, and about houses put together: right ones and bent ones."""

import random
import unittest
from itertools import permutations

from ownseen.check_torn import shows_agreed, shows_core, shows_joined, shows_torn
from ownseen.errors import BadValue, Misfit, SeenError, TooMany
from ownseen.histories import History
from ownseen.joins import Lax, Ring, agreed, completed, joined
from ownseen.kinds import Kind
from ownseen.makers import chest, counter, purse, shelf, tickets
from ownseen.orders import Fits
from ownseen.own import Breaks, Keeps, keeps
from ownseen.papers import Denial, Paper
from ownseen.stairs import stair
from ownseen.torn import Core, Torn, core, narrowed, tickets_weave, torn
from ownseen.watches import Lets
from ownseen.weaves import Weave, at, order_of_all

from tests.helper import (
    NO_OBJECTS, NO_ROWS, SeenTest, bare, bends, ended, is_plain_break, is_plain_order, listed, plain_break, plain_holds,
    plain_left, plain_lots, seen_pairs, some_histories, weave_stands,
)
from tests.test_joins import plain_completed, plain_go_together, some_sets, some_weaves

COIN = Kind(["take"], ["done", "short"], 2, 1, [(0, 0, 1, 0), (1, 0, 0, 0)])
HISTORIES = some_histories(111, 260, kinds=(COIN, shelf(2, 0), purse(3, 1), counter(3), chest(2)))
BROKEN = [(kind, events) for kind, events in HISTORIES if plain_break(kind, events) is not None]


def plain_events_at(weave, house):
    """The events at a house, the yeses that came elsewhere behind them."""
    events = [bare(event) for event in weave.events if event[1] == house]
    here = {event[1] for event in events}
    told = {event[1] for event in events if event[0] == "yes"}
    return events + [("yes", deal) for deal in weave.ended if deal in here - told]


def plain_tears(kind, events, weave):
    """Whether a weave tears the history of these events, by a listing of all orders."""
    if not isinstance(weave, Weave) or len(weave.kinds) != 2 or len(weave.ended) > 7:
        return False
    first, second = plain_events_at(weave, 0), plain_events_at(weave, 1)
    if max(len(first), len(second)) > 120 or weave.kinds[0] != kind or first != [tuple(event) for event in events]:
        return False
    if plain_break(weave.kinds[1], second) is not None:
        return False
    return not any(
        plain_left(kind, first, [deal for deal in order if ("yes", deal) in first]) is not None
        and plain_left(weave.kinds[1], second, [deal for deal in order if ("yes", deal) in second]) is not None
        for order in permutations(weave.ended)
    )


def bent_weaves(dice, weave, many):
    """Weaves with one event less, two turned round, another kind, one house more, more events, where they stand."""
    rows, kinds = list(weave.events), list(weave.kinds)
    made = [(kinds + [COIN], rows), ([kinds[0], tickets(11)], rows), ([kinds[0], stair(8)], rows)]
    made += [(kinds, rows + [("ready", 1, 10), ("yes", 1, 10)]), (kinds, rows + [("no", 1, 10)])]
    for _ in range(many):
        place, other = dice.randrange(len(rows)), dice.randrange(len(rows))
        some = list(rows)
        if dice.random() < 0.5:
            del some[place]
        else:
            some[place], some[other] = some[other], some[place]
        made.append((kinds, some))
    for told, events in made:
        try:
            yield Weave(told, events)
        except SeenError:
            pass


class ShowsTornTest(SeenTest):
    def test_right_and_bent_weaves(self):
        dice, counts = random.Random(112), [0, 0]
        for kind, events in BROKEN:
            history, told = History(kind, events), torn(History(kind, events))
            self.assertIs(shows_torn(history, told), True)
            self.assertIs(shows_torn(history=history, value=Torn(weave=told.weave)), True)
            for weave in bent_weaves(dice, told.weave, 30):
                wanted = plain_tears(kind, events, weave)
                self.assertIs(shows_torn(history, Torn(weave)), wanted)
                counts[wanted] += 1
        self.assertGreater(min(counts), 100)

    def test_all_orders(self):
        counts = [0, 0]
        for kind, events in HISTORIES:
            history = History(kind, events)
            for order in list(permutations(history.ended))[:12]:
                if order and plain_holds(events, order):
                    wanted = plain_left(kind, events, order) is None
                    self.assertIs(shows_torn(history, Torn(tickets_weave(history, order))), wanted)
                    counts[wanted] += 1
        self.assertGreater(min(counts), 30)

    def test_each_condition(self):
        crowd = [("ask", 0, 0), ("answer", 0, 0), ("ask", 1, 0), ("answer", 1, 1), ("ready", 0), ("ready", 1), ("yes", 0), ("yes", 1)]
        history = History(COIN, crowd)
        weave = tickets_weave(history, [1, 0])
        self.assertIs(shows_torn(history, Torn(weave)), True)
        # Another house than that of tickets will do, if it keeps its own rule.
        steps = [("ask", 1, 1, 0), ("answer", 1, 1, 0), ("ask", 1, 0, 1), ("answer", 1, 0, 0)] + list(weave.events[4:])
        self.assertIs(shows_torn(history, Torn(Weave([COIN, stair(2)], steps))), True)
        # The second house breaks its own rule: neither deal has seen the other there.
        blind = [event for event in weave.events if event[1] == 1 and event[0] in ("ask", "answer")]
        blind += [(event[0], 0) + event[1:] for event in crowd[:6]] + [("ready", 1, 1), ("ready", 1, 0)]
        blind += [("yes", 0, 0), ("yes", 0, 1)]
        self.assertEqual(at(Weave([COIN, tickets(2)], blind), 0), history)
        self.assertIs(bool(order_of_all(Weave([COIN, tickets(2)], blind))), False)
        self.assertIs(shows_torn(history, Torn(Weave([COIN, tickets(2)], blind))), False)
        # Another kind, or other events, at house 0.
        other = Kind(["take"], ["done", "none"], 2, 1, [(0, 0, 1, 0), (1, 0, 0, 0)])
        self.assertIs(shows_torn(History(other, crowd), Torn(weave)), False)
        self.assertIs(shows_torn(History(COIN, crowd + [("no", 5)]), Torn(weave)), False)
        # A yes that house 0 has not heard is counted there.
        self.assertIs(shows_torn(history, Torn(Weave(weave.kinds, weave.events[:-1]))), True)
        self.assertIs(shows_torn(history, Torn(Weave(weave.kinds, weave.events[:-2]))), True)

    def test_a_weave_of_more_deals(self):
        history = History(COIN, ended({0: [(0, 1)]}))
        weave = torn(history).weave
        for many in (6, 7):
            more = [(word, 1, deal) for deal in range(1, 1 + many) for word in ("ready", "yes")]
            self.assertIs(shows_torn(history, Torn(Weave(weave.kinds, list(weave.events) + more))), many == 6)

    def test_a_weave_with_more_events_than_may_be(self):
        history = History(COIN, ended({0: [(0, 1)]}))
        weave = torn(history).weave
        fill = [(word, 1, 9, 0) for _ in range(58) for word in ("ask", "answer")]
        rest = [("no", 1, 8)]
        self.assertIs(shows_torn(history, Torn(Weave(weave.kinds, list(weave.events) + fill[:-2]))), True)
        events = [event for event in weave.events if event != ("yes", 1, 0)]
        for more in ([], rest):
            long = Weave(weave.kinds, fill + more + events)
            self.assertEqual(sum(event[1] == 1 for event in long.events), 119 + len(more))
            self.assertIs(shows_torn(history, Torn(long)), not more)

    def test_any_value_and_wrong_arguments(self):
        history = History(COIN, ended({0: [(0, 1)]}))
        weave = torn(history).weave
        for value in NO_OBJECTS + NO_ROWS + (weave, Paper("torn", weave), Denial("torn", weave), Core([0], weave, []), Torn):
            self.assertIs(shows_torn(history, value), False)
            self.assertIs(shows_torn(history, Torn(value)), value is weave)
        self.assert_faults(shows_torn, {"history": history, "value": None}, [
            ("history", NO_OBJECTS + (COIN, weave, Keeps([])), BadValue("history")),
        ])
        many = History(COIN, ended({deal: [] for deal in range(8)}))
        self.assert_raises(TooMany("deals", 7), shows_torn, many, Torn(weave))
        self.assert_raises(TooMany("deals", 7), shows_core, many, None)
        kept = History(COIN, [])
        self.assertIs(shows_torn(kept, Torn(weave)), False)


class ShowsCoreTest(SeenTest):
    def test_any_lot_of_which_no_deal_can_be_missed(self):
        counts = [0, 0]
        for kind, events in HISTORIES:
            history = History(kind, events)
            for lot in plain_lots(history.ended):
                few = narrowed(history, lot)
                order = plain_break(kind, list(few.events))
                rests = [narrowed(history, [other for other in lot if other != deal]) for deal in lot]
                wanted = order is not None and all(keeps(rest) for rest in rests)
                weave = tickets_weave(few, lot if order is None else order) if lot and plain_holds(few.events, order or lot) else None
                self.assertIs(shows_core(history, Core(lot, weave, [keeps(rest) for rest in rests])), wanted)
                counts[wanted] += 1
        self.assertGreater(min(counts), 40)

    def test_bent_papers(self):
        dice, counts = random.Random(113), [0, 0]
        for kind, events in BROKEN:
            history, told = History(kind, events), core(History(kind, events))
            few = plain_narrowed(events, told.deals)
            self.assertIs(shows_core(history, told), True)
            self.assertIs(shows_core(history, Core(list(told.deals), told.weave, list(told.papers))), True)
            for bent in bends(told.deals):
                self.assertIs(shows_core(history, Core(bent, told.weave, told.papers)), listed(bent) == list(told.deals)
                              and all(type(deal) is int for deal in bent))
            for weave in bent_weaves(dice, told.weave, 12):
                wanted = plain_tears(kind, few, weave)
                self.assertIs(shows_core(history, Core(told.deals, weave, told.papers)), wanted)
                counts[wanted] += 1
            for place, paper in enumerate(told.papers):
                for some in (None, Breaks([]), Lets(paper.rooms), Keeps([]), Paper("keeps", paper.rooms), Keeps(paper.rooms[1:])):
                    papers = list(told.papers)
                    papers[place] = some
                    self.assertIs(shows_core(history, Core(told.deals, told.weave, papers)), False)
                for papers in (told.papers[1:], told.papers + (paper,), None, paper, {0: paper}):
                    self.assertIs(shows_core(history, Core(told.deals, told.weave, papers)), False)
        self.assertGreater(min(counts), 50)

    def test_papers_with_more_states_and_in_their_order(self):
        look = History(shelf(2, 0), [("ask", 1, 2), ("answer", 1, 1), ("ask", 0, 1), ("answer", 0, 0), ("ready", 0),
                                     ("yes", 0), ("ready", 1), ("yes", 1)])
        told = core(look)
        self.assertEqual(told.deals, (0, 1))
        wide = Keeps([((), (0,)), ((0,), (0, 1))])
        self.assertIs(shows_core(look, Core([0, 1], told.weave, [told.papers[0], wide])), True)
        self.assertIs(shows_core(look, Core([0, 1], told.weave, told.papers[::-1])), False)
        self.assertIs(shows_core(look, Core([], told.weave, [])), False)

    def test_any_value_and_wrong_arguments(self):
        history = History(COIN, ended({0: [(0, 1)]}))
        told = core(history)
        for value in NO_OBJECTS + NO_ROWS + (Torn(told.weave), Paper("core", *told.parts), Core):
            self.assertIs(shows_core(history, value), False)
            self.assertIs(shows_core(history, Core(value, told.weave, told.papers)), False)
            self.assertIs(shows_core(history, Core(told.deals, value, told.papers)), False)
            self.assertIs(shows_core(history, Core(told.deals, told.weave, value)), False)
        self.assert_faults(shows_core, {"history": history, "value": None}, [
            ("history", NO_OBJECTS + (COIN, told), BadValue("history")),
        ])
        self.assertIs(shows_core(History(COIN, []), told), False)


def plain_narrowed(events, lot):
    return [("no", event[1]) if event[0] == "yes" and event[1] not in lot else event for event in events]


def is_plain_common(kinds, rows, order):
    deals = sorted({deal for events in rows for word, deal, *_ in events if word == "yes"})
    if not is_plain_order(order, deals):
        return False
    for kind, events in zip(kinds, rows):
        part = [deal for deal in order if ("yes", deal) in events]
        if not plain_holds(events, part) or plain_left(kind, events, part) is None:
            return False
    return True


def is_plain_lax(kinds, rows, house, order):
    return type(house) is int and 0 <= house < len(kinds) and is_plain_break(kinds[house], rows[house], order)


def is_plain_ring(rows, deals, houses):
    if not all(isinstance(row, (list, tuple)) and all(type(one) is int for one in row) for row in (deals, houses)):
        return False
    if not 2 <= len(deals) == len(set(deals)) == len(houses):
        return False
    pairs = [(deals[place - 1], deals[place]) for place in range(len(deals))]
    return all(0 <= houses[place - 1] < len(rows) and pair in seen_pairs(rows[houses[place - 1]]) for place, pair in enumerate(pairs))


class ShowsJoinedTest(SeenTest):
    def test_all_orders_and_houses(self):
        counts = {}
        for kinds, events in some_weaves(114, 250):
            weave = Weave(kinds, events)
            rows = [plain_events_at(weave, house) for house in range(len(kinds))]
            self.assertIs(shows_joined(weave, joined(weave)), True)
            for order in permutations(weave.ended):
                wanted = is_plain_common(kinds, rows, order)
                self.assertIs(shows_joined(weave, Fits(list(order))), wanted)
                counts["fits", wanted] = counts.get(("fits", wanted), 0) + 1
            for house in range(len(kinds)):
                for order in permutations(at(weave, house).ended):
                    wanted = is_plain_lax(kinds, rows, house, order)
                    self.assertIs(shows_joined(weave, Lax(house, order)), wanted)
                    counts["lax", wanted] = counts.get(("lax", wanted), 0) + 1
        self.assertGreater(min(counts.values()), 60)

    def test_bent_papers(self):
        checked = 0
        for kinds, events in some_weaves(115, 200):
            weave = Weave(kinds, events)
            rows = [plain_events_at(weave, house) for house in range(len(kinds))]
            told = joined(weave)
            if told:
                for bent in bends(told.order):
                    self.assertIs(shows_joined(weave, Fits(bent)), is_plain_common(kinds, rows, bent))
                    checked += 1
            else:
                for bent in bends(told.order):
                    self.assertIs(shows_joined(weave, Lax(told.house, bent)), is_plain_lax(kinds, rows, told.house, bent))
                for bent in list(bends(told.house)) + [-1, len(kinds), 4]:
                    self.assertIs(shows_joined(weave, Lax(bent, told.order)), is_plain_lax(kinds, rows, bent, told.order))
                    checked += 1
        self.assertGreater(checked, 1000)

    def test_any_value_and_wrong_arguments(self):
        weave = Weave([COIN, COIN], [(word, 0, deal) for deal in (0, 1) for word in ("ready", "yes")])
        for value in NO_OBJECTS + NO_ROWS + (Keeps([]), Breaks([0]), Paper("fits", [0, 1]), Ring([0, 1], [0, 0]), Fits, Lax):
            self.assertIs(shows_joined(weave, value), False)
            self.assertIs(shows_joined(weave, Fits(value)), False)
            self.assertIs(shows_joined(weave, Lax(value, value)), False)
            self.assertIs(shows_joined(weave, Lax(0, value)), False)
        self.assertIs(shows_joined(weave, Fits([0, 1])), True)
        self.assertIs(shows_joined(weave, Fits([False, True])), False)
        self.assertIs(shows_joined(weave, Lax(1, [])), False)
        self.assert_faults(shows_joined, {"weave": weave, "value": None}, [
            ("weave", NO_OBJECTS + (COIN, History(COIN, [])), BadValue("weave")),
        ])
        many = Weave([COIN, COIN], [(word, 1, deal) for deal in range(8) for word in ("ready", "yes")])
        self.assert_raises(TooMany("deals", 7), shows_joined, many, None)
        asks = [(word, 1, 5, 0) for _ in range(59) for word in ("ask", "answer")] + [("ask", 1, 5, 0)]
        long = Weave([COIN, COIN], asks + [("ready", 0, 0), ("ready", 1, 0), ("yes", 0, 0)])
        self.assert_raises(TooMany("events", 120), shows_joined, long, None)


class ShowsAgreedTest(SeenTest):
    def test_all_papers(self):
        counts = {}
        for kinds, rows in some_sets(116, 400):
            if not plain_go_together(rows):
                continue
            histories, done = [History(kind, events) for kind, events in zip(kinds, rows)], plain_completed(rows)
            self.assertIs(shows_agreed(histories, agreed(histories)), True)
            deals = sorted({deal for events in done for word, deal, *_ in events if word == "yes"})
            papers = [(Fits(order), is_plain_common(kinds, done, order)) for order in permutations(deals)]
            for house, history in enumerate(completed(histories)):
                papers += [(Lax(house, order), is_plain_lax(kinds, done, house, order)) for order in permutations(history.ended)]
            for ring in [ring for many in (1, 2, 3) for ring in permutations(deals, many)]:
                for houses in [(0,) * len(ring), (1,) * len(ring), tuple(range(len(ring))), tuple(range(len(ring)))[::-1]]:
                    papers.append((Ring(list(ring), list(houses)), is_plain_ring(done, ring, houses)))
            for paper, wanted in papers:
                self.assertIs(shows_agreed(tuple(histories), paper), wanted)
                counts[paper.word, wanted] = counts.get((paper.word, wanted), 0) + 1
        self.assertGreater(min(counts.values()), 15, counts)
        self.assertEqual(len(counts), 6)

    def test_bent_rings(self):
        def sees(one, other):
            return History(COIN, [("ready", one), ("yes", one), ("ready", other), ("yes", other)])
        histories = [sees(0, 4), sees(4, 9), sees(9, 0), sees(0, 4)]
        rows = [list(history.events) for history in histories]
        self.assertIs(shows_agreed(histories, Ring([4, 9, 0], [1, 2, 3])), True)
        self.assertIs(shows_agreed(histories, Ring([4, 9, 0], [1, 2, 0])), True)
        for bent in bends((4, 9, 0)):
            self.assertIs(shows_agreed(histories, Ring(bent, [1, 2, 3])), is_plain_ring(rows, bent, [1, 2, 3]))
        for bent in bends((1, 2, 3)):
            self.assertIs(shows_agreed(histories, Ring([4, 9, 0], bent)), is_plain_ring(rows, [4, 9, 0], bent))
        # A ring with a deal twice is none, though each step of it is seen.
        self.assertIs(shows_agreed(histories, Ring([0, 4, 9, 0, 4, 9], [0, 1, 2, 0, 1, 2])), False)
        self.assertIs(shows_agreed(histories, Ring([], [])), False)

    def test_any_value_and_wrong_arguments(self):
        history = History(COIN, ended({0: [(0, 0)]}))
        for value in NO_OBJECTS + NO_ROWS + (Keeps([]), Breaks([0]), Paper("fits", [0]), Ring, Lax):
            self.assertIs(shows_agreed([history], value), False)
            self.assertIs(shows_agreed([history], Ring(value, value)), False)
            self.assertIs(shows_agreed([history], Ring([0, 1], value)), False)
            self.assertIs(shows_agreed([history], Lax(value, [0])), False)
        self.assert_faults(shows_agreed, {"histories": [history], "value": None}, [
            ("histories", NO_ROWS + ([], [history] * 5, [None], history), BadValue("histories")),
        ])
        self.assert_raises(Misfit("histories"), shows_agreed, [history, History(COIN, [("no", 0)])], None)
        asks = [(word, 5, 0) for _ in range(59) for word in ("ask", "answer")] + [("ask", 5, 0), ("ready", 0)]
        self.assert_raises(TooMany("events", 120), shows_agreed, [history, History(COIN, asks)], None)
        many = History(COIN, ended({deal: [] for deal in range(8)}))
        self.assert_raises(TooMany("deals", 7), shows_agreed, [many], Fits(list(range(8))))


class GreatestSizeTest(SeenTest):
    def test_seven_deals(self):
        history = History(purse(8, 6), ended({deal: [(2, 0)] for deal in range(7)}))
        told = core(history)
        self.assertIs(self.assert_short(shows_core, history, told), True)
        self.assertIs(self.assert_short(shows_torn, history, torn(history)), True)
        self.assertTrue(weave_stands(told.weave.kinds, told.weave.events[:-1], told.weave.events[-1]))


if __name__ == "__main__":
    unittest.main()
