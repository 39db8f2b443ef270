"""Histories, held against the words of the document, event by event."""

import random
import unittest

from ownseen.errors import BadEvents, BadKind, BadNumber, BadValue
from ownseen.histories import History, operations, seen_of, waiting
from ownseen.kinds import Kind
from ownseen.makers import purse, shelf

from tests.helper import (
    NO_NUMBERS, NO_OBJECTS, NO_ROWS, SeenTest, all_events, deals_with, history_stands, listed, some_events, some_kind,
    works_by, seen_pairs,
)

COIN = Kind(["take"], ["done", "short"], 2, 1, [(0, 0, 1, 0), (1, 0, 0, 0)])
DONE = [("ask", 0, 0), ("answer", 0, 0), ("ready", 0), ("yes", 0)]
# Events of which each can stand behind those ahead, with each of the five words.
ROW = DONE + [("ask", 1, 0), ("no", 1), ("ask", 2, 0), ("answer", 2, 1), ("ready", 2), ("no", 2), ("ready", 11)]
# What is no event at the house, whatever is ahead.
NO_EVENTS = NO_ROWS + (
    (), ("ask",), ("ask", 3), ("ask", 3, 0, 0), ("answer", 3), ("answer", 3, 0, 0), ("ready",), ("ready", 3, 0),
    ("yes", 3, 0), ("no", 3, 0), ("Ready", 3), ("told", 3), ("", 3), ("ask ", 3, 0), (b"ready", 3), (0, 3), (None, 3),
    (["ready"], 3), (("ready",), 3), ({}, 3), ("ready", 12), ("ready", -1), ("ready", 10 ** 60), ("ask", 3, 1),
    ("ask", 3, -1), ("ask", 12, 0), ("ask", 3, 10 ** 60), {"ready": 3}, {"ready", 3},
) + tuple(("ready", wrong) for wrong in NO_NUMBERS) + tuple(("ask", 3, wrong) for wrong in NO_NUMBERS)


def crowded(many):
    """So many events: deal 0 asks and is answered again and again; of an odd number the last is an ask."""
    return [(("ask", 0, 0), ("answer", 0, 1))[at % 2] for at in range(many)]


class HistoryTest(SeenTest):
    def test_all_rows_of_events_of_a_deal(self):
        """Every event behind every row of events that stands, up to seven events of two deals."""
        stack = [[]]
        while stack:
            ahead = stack.pop()
            for event in all_events(COIN, (0,)) if len(ahead) > 3 else all_events(COIN, (0, 1)):
                if history_stands(COIN, ahead, event):
                    self.assertEqual(History(COIN, ahead + [event]).events, tuple(ahead + [event]))
                    if len(ahead) < 6:
                        stack.append(ahead + [event])
                else:
                    self.assert_raises(BadEvents(len(ahead)), History, COIN, ahead + [event])

    def test_events_put_in_and_left_out(self):
        dice = random.Random(31)
        for _ in range(60):
            kind = some_kind(dice)
            events = some_events(dice, kind, (0, 3, 11), 14)
            for at in range(len(events) + 1):
                bent = events[:at] + events[at + 1:]
                self.assert_first_fault(kind, bent)
                for event in dice.sample(all_events(kind, (0, 3)), 5):
                    self.assert_first_fault(kind, events[:at] + [event] + events[at:])

    def assert_first_fault(self, kind, events):
        for at, event in enumerate(events):
            if not history_stands(kind, events[:at], event):
                self.assert_raises(BadEvents(at), History, kind, events)
                return
        self.assertEqual(len(History(kind, events).events), len(events))

    def test_what_is_no_event_at_each_place(self):
        self.assertEqual(len(History(COIN, ROW).events), len(ROW))
        for at in range(len(ROW) + 1):
            for wrong in NO_EVENTS:
                self.assert_raises(BadEvents(at), History, COIN, ROW[:at] + [wrong] + ROW[at:])

    def test_answers_of_the_kind(self):
        for answer in (0, 1):
            History(COIN, [("ask", 0, 0), ("answer", 0, answer)])
        for wrong in (2, -1) + NO_NUMBERS:
            self.assert_raises(BadEvents(1), History, COIN, [("ask", 0, 0), ("answer", 0, wrong)])
        wide = purse(2, 0)
        for ask in range(5):
            for answer in range(6):
                History(wide, [("ask", 0, ask), ("answer", 0, answer)])
        self.assert_raises(BadEvents(0), History, wide, [("ask", 0, 5)])
        self.assert_raises(BadEvents(1), History, wide, [("ask", 0, 4), ("answer", 0, 6)])

    def test_the_first_of_two_faults(self):
        self.assert_raises(BadEvents(1), History, COIN, [("ready", 0), ("ready", 0), None])
        self.assert_raises(BadEvents(1), History, COIN, [("ready", 0), None, ("ready", 0)])

    def test_what_is_no_list(self):
        for wrong in NO_ROWS:
            self.assert_raises(BadEvents(0), History, COIN, wrong)

    def test_120_events_and_121(self):
        self.assertEqual(len(History(COIN, crowded(120)).events), 120)
        self.assert_raises(BadEvents(120), History, COIN, crowded(121))
        self.assert_raises(BadEvents(120), History, COIN, crowded(120) + [None])
        self.assert_raises(BadEvents(120), History, COIN, crowded(120) + [("ready", 0)] * 2)
        self.assert_raises(BadEvents(119), History, COIN, crowded(119) + [("ask", 0, 0), None])

    def test_deals_from_0_to_11(self):
        told = History(COIN, [("ready", deal) for deal in range(11, -1, -1)])
        self.assertEqual((told.deals, told.readied), (tuple(range(12)), tuple(range(12))))

    def test_attributes(self):
        told = History(COIN, ROW + [("ask", 7, 0), ("ask", 5, 0), ("answer", 5, 0), ("no", 9)])
        self.assertEqual(told.kind, COIN)
        self.assertEqual(told.deals, (0, 1, 2, 5, 7, 9, 11))
        self.assertEqual(told.ended, (0,))
        self.assertEqual(told.opened, (5, 7, 11))
        self.assertEqual(told.readied, (11,))
        empty = History(COIN, [])
        self.assertEqual((empty.events, empty.deals, empty.ended, empty.opened, empty.readied), ((),) * 5)

    def test_attributes_of_many(self):
        dice = random.Random(32)
        for _ in range(150):
            kind = some_kind(dice)
            events = some_events(dice, kind, (0, 1, 4, 11), 20)
            told = History(kind, events)
            yes, no, ready = (deals_with(events, word) for word in ("yes", "no", "ready"))
            deals = tuple(sorted({event[1] for event in events}))
            opened = tuple(deal for deal in deals if deal not in yes + no)
            self.assertEqual((told.deals, told.ended, told.opened), (deals, yes, opened))
            self.assertEqual(told.readied, tuple(deal for deal in opened if deal in ready))
            self.assertEqual(told.events, tuple(events))
            for deal in range(12):
                self.assertEqual(operations(told, deal), works_by(events, deal))
                asked = [event for event in events if event[1] == deal and event[0] in ("ask", "answer", "no")]
                wanted = asked[-1][2] if asked and asked[-1][0] == "ask" else None
                self.assertEqual(waiting(told, deal), wanted)
            self.assertEqual(seen_of(told), seen_pairs(events))

    def test_lists_and_tuples(self):
        told = History(COIN, listed(ROW))
        self.assertEqual(told, History(kind=COIN, events=tuple(ROW)))
        self.assertEqual(told.events, tuple(ROW))
        for value in (told.events, told.events[0], told.deals, told.ended, told.opened, told.readied):
            self.assertIs(type(value), tuple)

    def test_what_is_passed_is_neither_kept_nor_changed(self):
        given = listed(ROW)
        told = History(COIN, given)
        self.assertEqual(given, listed(ROW))
        given[0][1] = 9
        given.append(["no", 0])
        self.assertEqual(told, History(COIN, ROW))

    def test_equal(self):
        other = Kind(["take"], ["done", "none"], 2, 1, [(0, 0, 1, 0), (1, 0, 0, 0)])
        self.assertIs(History(COIN, ROW) == History(COIN, list(ROW)), True)
        self.assertIs(History(COIN, ROW) == History(other, ROW), False)
        self.assertIs(History(COIN, ROW) == History(COIN, ROW[:-1]), False)
        self.assertIs(History(COIN, [("ready", 0), ("no", 1)]) == History(COIN, [("no", 1), ("ready", 0)]), False)
        for value in NO_OBJECTS + (COIN, tuple(ROW), ROW):
            self.assertIs(History(COIN, ROW) == value, False)
            self.assertIs(value == History(COIN, ROW), False)

    def test_wrong_values(self):
        self.assert_faults(History, {"kind": COIN, "events": ROW}, [
            ("kind", NO_OBJECTS, BadKind("kind")), ("events", NO_ROWS, BadEvents(0)),
        ])
        told = History(COIN, ROW)
        histories = ("history", NO_OBJECTS + (COIN, ROW), BadValue("history"))
        deals = ("deal", NO_NUMBERS + (-1, 12, 10 ** 60), BadNumber("deal"))
        for function in (operations, waiting):
            self.assert_faults(function, {"history": told, "deal": 3}, [histories, deals])
        self.assert_faults(seen_of, {"history": told}, [histories])


class SeenOfTest(SeenTest):
    def test_by_an_answer_or_by_the_ready(self):
        ahead = [("ready", 0), ("ask", 1, 0)]
        for behind, wanted in (
            ([("yes", 0), ("answer", 1, 0), ("ready", 1), ("yes", 1)], ((0, 1),)),
            ([("answer", 1, 0), ("yes", 0), ("ready", 1), ("yes", 1)], ((0, 1),)),
            ([("answer", 1, 0), ("ready", 1), ("yes", 0), ("yes", 1)], ()),
            ([("answer", 1, 0), ("ready", 1), ("yes", 1), ("yes", 0)], ()),
            ([("yes", 0), ("answer", 1, 0), ("ready", 1)], ()),
            ([("answer", 1, 0), ("ready", 1), ("yes", 1)], ()),
        ):
            told = History(COIN, ahead + behind)
            self.assertEqual(seen_of(told), wanted)

    def test_an_ask_alone_sees_nothing(self):
        told = History(COIN, [("ready", 0), ("ask", 1, 0), ("answer", 1, 0), ("yes", 0), ("ask", 1, 0), ("no", 1)])
        self.assertEqual(seen_of(told), ())

    def test_two_answers_around_a_yes(self):
        events = [("ask", 1, 0), ("answer", 1, 0), ("ready", 0), ("yes", 0), ("ready", 1), ("yes", 1), ("ready", 2), ("yes", 2)]
        self.assertEqual(seen_of(History(COIN, events)), ((0, 1), (0, 2), (1, 2)))

    def test_called_off_and_open_deals_are_not_seen(self):
        events = DONE + [("ready", 1), ("no", 1), ("ready", 2), ("ask", 3, 0), ("answer", 3, 0)]
        self.assertEqual(seen_of(History(COIN, events)), ())


class WaitingTest(SeenTest):
    def test_waiting(self):
        wide = shelf(3, 0)
        told = History(wide, [("ask", 0, 2), ("ask", 1, 3), ("answer", 1, 1), ("ask", 2, 1), ("no", 2), ("ask", 1, 0)])
        self.assertEqual([waiting(told, deal) for deal in range(4)], [2, 0, None, None])
        self.assertEqual(operations(told, 1), ((3, 1),))
        self.assertEqual(operations(told, 2), ())
        self.assertEqual(waiting(history=told, deal=0), 2)
        self.assertEqual(operations(history=told, deal=0), ())

    def test_called_off_deals_have_operations(self):
        told = History(COIN, [("ask", 0, 0), ("answer", 0, 1), ("ask", 0, 0), ("answer", 0, 0), ("no", 0)])
        self.assertEqual(operations(told, 0), ((0, 1), (0, 0)))

    def test_tuples_are_returned(self):
        told = History(COIN, listed(ROW))
        self.assertIs(type(operations(told, 0)), tuple)
        self.assertIs(type(operations(told, 0)[0]), tuple)
        self.assertIs(type(seen_of(told)), tuple)


if __name__ == "__main__":
    unittest.main()
