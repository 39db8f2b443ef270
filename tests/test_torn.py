"""Weaves with tickets, and cores, held against a plain listing of places, lots and orders."""

import random
import unittest
from itertools import permutations

from ownseen.errors import BadLot, BadOrder, BadValue, Impossible, Misfit, TooMany
from ownseen.histories import History, seen_of
from ownseen.kinds import Kind
from ownseen.makers import chest, counter, purse, shelf, tickets
from ownseen.own import Keeps, keeps
from ownseen.torn import Core, Torn, core, narrowed, tickets_weave, torn
from ownseen.weaves import Weave, at, order_of_all

from tests.helper import (
    NO_OBJECTS, NO_ROWS, SeenTest, bare, deals_with, ended, great_kind, plain_break, plain_holds, plain_left, plain_lots,
    plain_rooms, some_histories, strict, weave_stands,
)

COIN = Kind(["take"], ["done", "short"], 2, 1, [(0, 0, 1, 0), (1, 0, 0, 0)])
HISTORIES = some_histories(91, 400, kinds=(COIN, shelf(2, 0), purse(3, 1), counter(3), chest(2)))


def plain_weave(events, order):
    """The events of the tickets weave: each pair is put in where the words say, looked for event by event."""
    told = []
    for number, deal in enumerate(order):
        told += [("ask", 1, deal, 0), ("answer", 1, deal, number)]
    came, left = set(), list(order)
    for event in events:
        told.append((event[0], 0) + tuple(event[1:]))
        if event[0] == "ready":
            came.add(event[1])
            while left and left[0] in came:
                told += [("ready", 1, left[0]), ("yes", 1, left[0])]
                del left[0]
    return told


def plain_narrowed(events, lot):
    return [("no", event[1]) if event[0] == "yes" and event[1] not in lot else event for event in events]


def plain_core(kind, events):
    """The first lot, shorter ones first, narrowed to which the rule is broken."""
    for lot in plain_lots(deals_with(events, "yes")):
        if plain_break(kind, plain_narrowed(events, lot)) is not None:
            return lot
    return None


class TicketsWeaveTest(SeenTest):
    def test_against_a_walk_along_the_events(self):
        checked = [0, 0]
        for kind, events in HISTORIES:
            history = History(kind, events)
            for order in list(permutations(history.ended))[:24]:
                if not plain_holds(events, order):
                    self.assert_raises(BadOrder("order"), tickets_weave, history, order)
                    checked[0] += 1
                elif order:
                    weave = tickets_weave(history, list(order))
                    self.assertEqual(weave.kinds, (kind, tickets(len(order))))
                    self.assertEqual(strict(weave.events), strict(plain_weave(events, order)))
                    self.assertEqual(tickets_weave(history=history, order=order), weave)
                    checked[1] += 1
        self.assertGreater(min(checked), 300)

    def test_what_a_tickets_weave_is(self):
        for kind, events in HISTORIES[:150]:
            history = History(kind, events)
            for order in [order for order in permutations(history.ended) if plain_holds(events, order)][:6]:
                if not order:
                    continue
                weave = tickets_weave(history, order)
                for place, event in enumerate(weave.events):
                    self.assertTrue(weave_stands(weave.kinds, weave.events[:place], event))
                self.assertEqual(at(weave, 0), history)
                second = [bare(event) for event in weave.events if event[1] == 1]
                self.assertEqual(list(at(weave, 1).events), second)
                self.assertIsNone(plain_break(tickets(len(order)), second))
                fitting = [told for told in permutations(order) if plain_left(tickets(len(order)), second, told) is not None]
                self.assertEqual(fitting, [order])
                self.assertIs(bool(order_of_all(weave)), plain_left(kind, events, order) is not None)

    def test_yeses_behind_one_event_stand_in_the_order(self):
        history = History(COIN, ended({3: [(0, 0)], 1: [], 2: []}))
        told = tickets_weave(history, [2, 3, 1]).events
        self.assertEqual(told[8:], (
            ("ready", 0, 3), ("ready", 0, 1), ("ready", 0, 2), ("ready", 1, 2), ("yes", 1, 2), ("ready", 1, 3), ("yes", 1, 3),
            ("ready", 1, 1), ("yes", 1, 1), ("yes", 0, 3), ("yes", 0, 1), ("yes", 0, 2),
        ))

    def test_deals_that_are_open_or_called_off_stay_at_home(self):
        events = [("ask", 5, 0), ("ready", 4), ("yes", 4), ("no", 6), ("ready", 7), ("no", 7), ("ready", 8)]
        weave = tickets_weave(History(COIN, events), [4])
        self.assertEqual([event for event in weave.events if event[1] == 1],
                         [("ask", 1, 4, 0), ("answer", 1, 4, 0), ("ready", 1, 4), ("yes", 1, 4)])
        self.assertEqual(weave.kinds[1], tickets(1))

    def test_errors(self):
        history = History(COIN, ended({0: [(0, 0)], 2: []}) + [("ready", 1), ("yes", 1)])
        orders = NO_ROWS + ([], [0, 2], [0, 2, 1, 1], [0, 1, 2], [1, 0, 2], [0, 2, 3], [0, 2, True], [0, 2, None], [[0], 2, 1])
        self.assert_faults(tickets_weave, {"history": history, "order": [2, 0, 1]}, [
            ("history", NO_OBJECTS + (COIN, Weave([COIN], []), Keeps([])), BadValue("history")),
            ("order", orders, BadOrder("order")),
        ])
        for empty in (History(COIN, []), History(COIN, [("ready", 3), ("no", 4)])):
            self.assert_raises(Misfit("history"), tickets_weave, empty, [])
            self.assert_raises(BadOrder("order"), tickets_weave, empty, [3])

    def test_seven_deals_and_eight(self):
        for many in (7, 8, 12):
            history = History(COIN, ended({deal: [] for deal in range(many)}))
            if many == 7:
                self.assertEqual(len(tickets_weave(history, list(range(7))).events), 42)
            else:
                self.assert_raises(TooMany("deals", 7), tickets_weave, history, list(range(many)))
                self.assert_raises(TooMany("deals", 7), torn, history)
                self.assert_raises(TooMany("deals", 7), core, history)
                self.assert_raises(BadOrder("order"), tickets_weave, history, list(range(many - 1)))

    def test_what_is_passed_stays(self):
        history, order = History(COIN, ended({0: [(0, 0)], 1: [(0, 1)]})), [1, 0]
        first = tickets_weave(history, order)
        order.reverse()
        self.assertEqual(history, History(COIN, ended({0: [(0, 0)], 1: [(0, 1)]})))
        self.assertEqual(tickets_weave(history, (1, 0)), first)


class NarrowedTest(SeenTest):
    def test_against_all_lots(self):
        for kind, events in HISTORIES[:200]:
            history = History(kind, events)
            for lot in plain_lots(history.ended):
                told = narrowed(history, list(lot))
                self.assertEqual(told.kind, kind)
                self.assertEqual(strict(told.events), strict(plain_narrowed(events, lot)))
                self.assertEqual(told.ended, lot)
            self.assertEqual(narrowed(history=history, deals=history.ended), history)

    def test_errors(self):
        history = History(COIN, ended({0: [(0, 0)], 1: [(0, 1)], 4: []}) + [("ready", 2), ("no", 3)])
        lots = NO_ROWS + ([1, 0], [0, 0], [2], [3], [0, 5], [0, True], [None], [[0]], [-1], ["0"], [0, 1, 2, 4], [12])
        self.assert_faults(narrowed, {"history": history, "deals": (0, 4)}, [
            ("history", NO_OBJECTS + (COIN,), BadValue("history")),
            ("deals", lots, BadLot("deals")),
        ])

    def test_more_than_seven_deals(self):
        history = History(COIN, ended({deal: [] for deal in range(12)}))
        self.assertEqual(narrowed(history, [3, 11]).ended, (3, 11))


class TornTest(SeenTest):
    def test_torn_exactly_if_the_rule_is_broken(self):
        counts = [0, 0]
        for kind, events in HISTORIES:
            history, order = History(kind, events), plain_break(kind, events)
            counts[order is None] += 1
            if order is None:
                kept = Impossible(Keeps(plain_rooms(kind, events)))
                self.assert_raises(kept, torn, history)
                self.assert_raises(kept, core, history)
            else:
                told = torn(history)
                self.assertEqual(told, Torn(tickets_weave(history, order)))
                self.assertEqual((told.word, told.parts), ("torn", (told.weave,)))
                self.assertEqual(torn(history=history), told)
                self.assertFalse(order_of_all(told.weave))
        self.assertGreater(min(counts), 50)

    def test_errors(self):
        history = History(COIN, ended({0: [(0, 1)]}))
        for function in (torn, core):
            self.assert_faults(function, {"history": history}, [
                ("history", NO_OBJECTS + (COIN, Weave([COIN], []), Keeps([])), BadValue("history")),
            ])
        self.assert_raises(Impossible(Keeps([((), (1,))])), torn, History(COIN, []))
        self.assert_raises(Impossible(Keeps([((), (1,))])), core, History(COIN, [("ready", 1)]))


class CoreTest(SeenTest):
    def test_against_all_lots(self):
        sizes = {}
        for kind, events in HISTORIES:
            lot = plain_core(kind, events)
            if plain_break(kind, events) is None:
                continue
            history, told = History(kind, events), core(History(kind, events))
            few = plain_narrowed(events, lot)
            weave = tickets_weave(History(kind, few), plain_break(kind, few))
            papers = tuple(
                Keeps(plain_rooms(kind, plain_narrowed(events, [one for one in lot if one != deal]))) for deal in lot
            )
            self.assertEqual(told, Core(lot, weave, papers))
            self.assertEqual((told.deals, told.weave, told.papers), (lot, weave, papers))
            self.assertEqual(told, core(history=history))
            sizes[len(lot)] = sizes.get(len(lot), 0) + 1
        self.assertGreater(min(sizes.get(1, 0), sizes.get(2, 0)), 2)

    def test_what_is_narrowed_may_break_what_was_kept(self):
        # Deal 1 finds none, as deal 0 took the coin: with a no for 0 it is broken by itself.
        events = [("ask", 0, 0), ("answer", 0, 0), ("ready", 0), ("yes", 0), ("ask", 1, 0), ("answer", 1, 1), ("ready", 1), ("yes", 1)]
        history = History(COIN, events)
        self.assertEqual(seen_of(history), ((0, 1),))
        self.assertTrue(keeps(history))
        self.assert_raises(Impossible(keeps(history)), core, history)
        self.assertEqual(core(narrowed(history, [1])).deals, (1,))

    def test_the_least_of_lots_of_one_length(self):
        # Each two that took the coin are one too many.
        history = History(COIN, ended({deal: [(0, 0)] for deal in (3, 5, 8)}))
        self.assertEqual(core(history).deals, (3, 5))
        wide = History(purse(2, 2), ended({deal: [(2, 0)] for deal in (1, 5, 8, 9)}))
        self.assertEqual(core(wide).deals, (1, 5, 8))

    def test_at_the_greatest_size(self):
        # All seven are needed: the purse has one coin too few for them.
        history = History(purse(8, 6), ended({deal: [(2, 0)] for deal in range(7)}))
        told = self.assert_short(core, history)
        self.assertEqual((told.deals, len(told.papers)), (tuple(range(7)), 7))
        dice, kind = random.Random(92), great_kind()
        works = {deal: [(dice.randrange(5), dice.randrange(2)) for _ in range(7)] for deal in range(7)}
        whole = History(kind, ended(works) + [("no", 11)])
        with self.assertRaises(Impossible):
            self.assert_short(torn, whole)

    def test_120_events(self):
        # 60 states that go round, the last of which alone is told; seven deals go some steps each.
        rows = [(state, 0, 0, (state + 1) % 60) for state in range(60)]
        rows += [(state, 1, int(state == 59), state) for state in range(60)]
        kind = Kind(["up", "look"], ["ok", "last"], 60, 3, sorted(rows))
        works = {deal: [(0, 0)] * (8 if deal < 5 else 7) for deal in range(6)}
        sound = ended({**works, 6: [(1, 0)] + [(0, 0)] * 4}) + [("no", 9), ("no", 10)]
        broken = ended({**works, 6: [(0, 0)] * 4 + [(1, 1)]}) + [("no", 9), ("no", 10)]
        self.assertEqual((len(sound), len(broken)), (120, 120))
        with self.assertRaises(Impossible):
            self.assert_short(core, History(kind, sound))
        told = self.assert_short(core, History(kind, broken))
        self.assertEqual((told.deals, len(told.weave.events)), ((6,), 124))
        self.assertEqual(self.assert_short(torn, History(kind, broken)).weave.ended, tuple(range(7)))


if __name__ == "__main__":
    unittest.main()
