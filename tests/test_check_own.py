"""Papers about the own rule, right ones and bent ones, held against what the test itself says of them."""

import random
import unittest
from itertools import permutations

from ownseen.check_own import shows_always, shows_keeps, shows_lets
from ownseen.errors import BadNumber, BadValue, TooMany
from ownseen.histories import History
from ownseen.kinds import Kind
from ownseen.makers import chest, counter, purse, shelf
from ownseen.own import Breaks, Keeps, keeps
from ownseen.papers import Denial, Paper
from ownseen.watches import Lets, Spoils, always, lets
from ownseen.weaves import Weave

from tests.helper import (
    NO_NUMBERS, NO_OBJECTS, NO_ROWS, SeenTest, are_plain_rooms, bends, deals_with, ended, free_deals, great_kind,
    is_plain_break, is_plain_lot, listed, opened_some, plain_closed, plain_lots, plain_rooms, ready_deals, some_histories,
    wider,
)

COIN = Kind(["take"], ["done", "short"], 2, 1, [(0, 0, 1, 0), (1, 0, 0, 0)])
HISTORIES = some_histories(81, 260, kinds=(COIN, shelf(2, 0), purse(3, 1), counter(3), chest(2)))


def with_yeses(events, lot):
    return events + [("yes", deal) for deal in lot]


def is_plain_spoils(kind, events, readied, deals, order):
    """Whether any values are a lot of the ready deals and an order that breaks when it has its yeses."""
    if not is_plain_lot(deals, 12) or not set(deals) <= set(readied):
        return False
    return is_plain_break(kind, with_yeses(events, deals), order)


class ShowsKeepsTest(SeenTest):
    def test_answers_of_keeps_and_all_orders(self):
        told_of = {}
        for kind, events in HISTORIES:
            history = History(kind, events)
            told = keeps(history)
            self.assertIs(shows_keeps(history, told), True)
            self.assertIs(shows_keeps(history=history, value=type(told)(listed(told.parts[0]))), True)
            for order in permutations(history.ended):
                wanted = is_plain_break(kind, events, order)
                self.assertIs(shows_keeps(history, Breaks(order)), wanted)
                told_of[wanted] = told_of.get(wanted, 0) + 1
        self.assertGreater(min(told_of[True], told_of[False]), 40)

    def test_rooms_with_more_states(self):
        dice, told_of = random.Random(82), {}
        for kind, events in HISTORIES:
            if len(deals_with(events, "yes")) > 4:
                continue
            history, closed = History(kind, events), plain_closed(events)
            rooms = [(lot, (kind.first,)) for lot in closed] if not keeps(history) else keeps(history).rooms
            for _ in range(6):
                some = wider(dice, rooms, kind.states)
                wanted = are_plain_rooms(kind, events, closed, some)
                self.assertIs(shows_keeps(history, Keeps(some)), wanted)
                told_of[wanted] = told_of.get(wanted, 0) + 1
            every = [(lot, list(range(kind.states))) for lot in closed]
            self.assertIs(shows_keeps(history, Keeps(every)), are_plain_rooms(kind, events, closed, every))
        self.assertGreater(min(told_of[True], told_of[False]), 40)

    def test_bent_papers(self):
        checked = 0
        for kind, events in HISTORIES:
            history, told = History(kind, events), keeps(History(kind, events))
            if told and len(told.rooms) > 9:
                continue
            closed = plain_closed(events)
            for bent in bends(told.parts[0]):
                self.assertIs(shows_keeps(history, Keeps(bent)), are_plain_rooms(kind, events, closed, bent))
                self.assertIs(shows_keeps(history, Breaks(bent)), is_plain_break(kind, events, bent))
                checked += 1
        self.assertGreater(checked, 4000)

    def test_rooms_in_their_order(self):
        history = History(COIN, ended({0: [(0, 0)], 3: []}))
        rooms = plain_rooms(COIN, list(history.events))
        self.assertIs(shows_keeps(history, Keeps(rooms)), True)
        for order in permutations(rooms):
            self.assertIs(shows_keeps(history, Keeps(order)), order == rooms)

    def test_an_empty_lot_of_states(self):
        empty = History(COIN, [])
        for rooms, wanted in (([[[], [1]]], True), ([[[], [0, 1]]], True), ([[[], []]], False), ([[[], [0]]], False), ([], False)):
            self.assertIs(shows_keeps(empty, Keeps(rooms)), wanted)
        self.assertIs(shows_keeps(empty, Breaks([])), False)

    def test_any_value(self):
        for history in (History(COIN, []), History(COIN, ended({0: [(0, 1)]})), History(COIN, ended({0: [(0, 0)]}))):
            for value in NO_OBJECTS + NO_ROWS + (Paper("keeps", [[[], [1]]]), Denial("breaks", [0]), Keeps, Lets([[[], [1]]])):
                self.assertIs(shows_keeps(history, value), False)
            for part in NO_ROWS + NO_OBJECTS[:10] + ([None], [[]], [[[]]], [[[], None]], [[None, [1]]], [[[], [1], [1]]], [{}]):
                self.assertIs(shows_keeps(history, Keeps(part)), False)
                self.assertIs(shows_keeps(history, Breaks(part)), False)

    def test_wrong_arguments_and_too_many(self):
        history = History(COIN, ended({deal: [] for deal in range(7)}))
        self.assert_faults(shows_keeps, {"history": history, "value": None}, [
            ("history", NO_OBJECTS + (COIN, Weave([COIN], []), Keeps([])), BadValue("history")),
        ])
        for value in (None, Keeps([]), Breaks(list(range(8)))):
            self.assert_raises(TooMany("deals", 7), shows_keeps, History(COIN, ended({deal: [] for deal in range(8)})), value)

    def test_at_the_greatest_size(self):
        dice, kind = random.Random(83), great_kind()
        works = {deal: [(dice.randrange(5), dice.randrange(2)) for _ in range(7)] for deal in range(7)}
        history = History(kind, ended(works))
        every = tuple(range(60))
        self.assertIs(self.assert_short(shows_keeps, history, Keeps([(lot, every) for lot in plain_lots(range(7))])), True)
        self.assertIs(self.assert_short(shows_keeps, history, keeps(history)), True)
        less = [(lot, every if lot != (2, 5) else every[1:]) for lot in plain_lots(range(7))]
        self.assertIs(self.assert_short(shows_keeps, history, Keeps(less)), False)


class ShowsAlwaysTest(SeenTest):
    def test_answers_and_any_spoils(self):
        dice, told_of = random.Random(84), {}
        for kind, events in HISTORIES:
            events = opened_some(dice, events)
            history, readied = History(kind, events), ready_deals(events)
            self.assertIs(shows_always(history, always(history)), True)
            self.assertIs(shows_always(history=history, value=always(history)), True)
            for lot in plain_lots(readied):
                for order in list(permutations(deals_with(with_yeses(events, lot), "yes")))[:30]:
                    wanted = is_plain_spoils(kind, events, readied, lot, order)
                    self.assertIs(shows_always(history, Spoils(list(lot), list(order))), wanted)
                    told_of[wanted] = told_of.get(wanted, 0) + 1
        self.assertGreater(min(told_of[True], told_of[False]), 100)

    def test_bent_papers(self):
        dice, checked = random.Random(85), 0
        for kind, events in HISTORIES:
            events = opened_some(dice, events)
            history, readied, told = History(kind, events), ready_deals(events), always(History(kind, events))
            behind = with_yeses(events, readied)
            closed = plain_closed(behind)
            if len(closed) > 9:
                continue
            for bent in bends(told.parts[0]):
                self.assertIs(shows_always(history, Lets(bent)), are_plain_rooms(kind, behind, closed, bent))
                if not told:
                    self.assertIs(shows_always(history, Spoils(bent, told.order)),
                                  is_plain_spoils(kind, events, readied, bent, told.order))
                checked += 1
            if not told:
                for bent in bends(told.order):
                    self.assertIs(shows_always(history, Spoils(told.deals, bent)),
                                  is_plain_spoils(kind, events, readied, told.deals, bent))
                    checked += 1
        self.assertGreater(checked, 3000)

    def test_other_lots_than_the_first_one(self):
        history = History(purse(2, 1), ended({deal: [(2, 0)] for deal in (2, 6, 9)}, sure=False))
        self.assertEqual(always(history).deals, (2, 6))
        for deals, order, wanted in (
            ((6, 9), (9, 6), True), ((2, 6, 9), (9, 2, 6), True), ((2,), (2,), False), ((2, 6), (2, 6, 9), False),
            ((2, 6), (2,), False), ((9, 6), (9, 6), False), ((2, 2), (2, 2), False), ((2, 3), (2, 3), False),
        ):
            self.assertIs(shows_always(history, Spoils(deals, order)), wanted)

    def test_any_value_and_wrong_arguments(self):
        history = History(COIN, ended({0: [(0, 0)], 1: [(0, 0)]}, sure=False))
        for value in NO_OBJECTS + NO_ROWS + (Keeps([[[], [1]]]), Breaks([0, 1]), Paper("spoils", [0, 1], [0, 1]), Spoils):
            self.assertIs(shows_always(history, value), False)
            self.assertIs(shows_always(history, Spoils(value, [0, 1])), False)
            self.assertIs(shows_always(history, Spoils([0, 1], value)), False)
            self.assertIs(shows_always(history, Lets(value)), False)
        self.assertIs(shows_always(history, Spoils([0, 1], [1, 0])), True)
        self.assertIs(shows_always(history, Spoils([False, True], [1, 0])), False)
        self.assertIs(shows_always(history, Spoils([0, 1], [True, False])), False)
        self.assert_faults(shows_always, {"history": history, "value": None}, [
            ("history", NO_OBJECTS + (COIN,), BadValue("history")),
        ])
        many = History(COIN, ended({deal: [] for deal in range(8)}, sure=False) + [("yes", 3)])
        self.assert_raises(TooMany("deals", 7), shows_always, many, None)


class ShowsLetsTest(SeenTest):
    def test_answers_and_any_spoils(self):
        dice, told_of, checked = random.Random(86), {}, 0
        for kind, events in HISTORIES:
            events = opened_some(dice, events)
            history = History(kind, events)
            for deal in free_deals(events):
                behind = events + [("ready", deal)]
                readied, told = ready_deals(behind), lets(history, deal)
                self.assertIs(shows_lets(history, deal, told), True)
                self.assertIs(shows_lets(history=history, deal=deal, value=type(told)(*listed(told.parts))), True)
                for lot in plain_lots(readied):
                    for order in list(permutations(deals_with(with_yeses(behind, lot), "yes")))[:12]:
                        wanted = deal in lot and is_plain_spoils(kind, behind, readied, lot, order)
                        self.assertIs(shows_lets(history, deal, Spoils(lot, order)), wanted)
                        told_of[wanted] = told_of.get(wanted, 0) + 1
                closed = plain_closed(with_yeses(behind, readied))
                if told and len(closed) < 9:
                    for bent in bends(told.rooms):
                        self.assertIs(shows_lets(history, deal, Lets(bent)),
                                      are_plain_rooms(kind, with_yeses(behind, readied), closed, bent))
                        checked += 1
        self.assertGreater(min(told_of[True], told_of[False]), 100)
        self.assertGreater(checked, 1000)

    def test_a_lot_without_the_deal(self):
        # Two took the one coin; that they are spoilt by themselves does not tell of a third one.
        events = ended({0: [(0, 0)], 1: [(0, 0)]}, sure=False) + [("ask", 5, 0), ("answer", 5, 1)]
        history = History(COIN, events)
        self.assertIs(shows_lets(history, 5, Spoils([0, 1], [0, 1])), False)
        self.assertIs(shows_lets(history, 5, Spoils([0, 1, 5], [0, 1, 5])), True)
        self.assertIs(shows_lets(history, 5, Spoils([5], [5])), True)
        self.assertIs(shows_lets(history, 5, Spoils([], [])), False)

    def test_any_value_and_wrong_arguments(self):
        events = [("ask", 0, 0), ("answer", 0, 0), ("ready", 1), ("ask", 4, 0), ("ready", 6), ("yes", 6), ("no", 7)]
        history = History(COIN, events)
        for value in NO_OBJECTS + NO_ROWS + (Keeps([[[], [1]]]), Paper("lets", [[[], [1]]])):
            self.assertIs(shows_lets(history, 0, value), False)
            self.assertIs(shows_lets(history, 0, Lets(value)), False)
            self.assertIs(shows_lets(history, 0, Spoils(value, value)), False)
        self.assert_faults(shows_lets, {"history": history, "deal": 0, "value": None}, [
            ("history", NO_OBJECTS + (COIN,), BadValue("history")),
            ("deal", NO_NUMBERS + (1, 4, 6, 7, 2, 11, 12, -1), BadNumber("deal")),
        ])
        many = History(COIN, ended({deal: [] for deal in range(7)}, sure=False) + [("ask", 9, 0), ("answer", 9, 0)])
        self.assert_raises(TooMany("deals", 7), shows_lets, many, 9, None)
        self.assert_raises(BadNumber("deal"), shows_lets, many, 8, None)


if __name__ == "__main__":
    unittest.main()
