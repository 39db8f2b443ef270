"""Weaves, held against the words of the document, and their orders against a listing of all."""

import random
import unittest
from itertools import permutations

from ownseen.check_orders import shows_order_of_all
from ownseen.errors import BadEvents, BadKind, BadNumber, BadOrder, BadValue, TooMany
from ownseen.histories import History
from ownseen.kinds import Kind
from ownseen.makers import purse, shelf, tickets
from ownseen.orders import Bars, Fits
from ownseen.papers import Denial, Paper
from ownseen.weaves import Weave, at, fits_all, last_order, order_of_all

from tests.helper import (
    NO_NUMBERS, NO_OBJECTS, NO_ROWS, SeenTest, all_events, bare, bends, fitting_weave_events, great_kind, listed, plain_left,
    some_kind, some_weave_events, strict, weave_stands,
)

COIN = Kind(["take"], ["done", "short"], 2, 1, [(0, 0, 1, 0), (1, 0, 0, 0)])
NONE = Kind(["take"], ["done"], 1, 0, [(0, 0, 0, 0)])
GATE = tickets(2)
TWO = [COIN, GATE]
# Each event stands, with each of the five words at each of the two houses.
ROW = [
    ("ask", 0, 0, 0), ("answer", 0, 0, 0), ("ask", 1, 0, 0), ("answer", 1, 0, 0), ("ready", 1, 0), ("ready", 0, 0),
    ("yes", 0, 0), ("ask", 1, 1, 0), ("no", 1, 1), ("ask", 0, 1, 0), ("no", 0, 1), ("ready", 0, 11), ("yes", 1, 0),
]
# What is no event of a weave of these two, whatever is ahead.
NO_EVENTS = NO_ROWS + (
    (), ("ask",), ("ask", 0), ("ask", 0, 3), ("ask", 0, 3, 0, 0), ("answer", 0, 3), ("ready", 3), ("ready", 0, 3, 0),
    ("yes", 0, 3, 0), ("no", 0, 3, 0), ("told", 0, 3), (["ready"], 0, 3), (None, 0, 3), (0, 0, 3), ("ready", 2, 3),
    ("ready", -1, 3), ("ready", 10 ** 60, 3), ("ready", 0, 12), ("ready", 0, -1), ("ask", 0, 3, 1), ("ask", 1, 3, 1),
    ("ask", 2, 3, 0), ("ask", 0, 3, -1),
) + tuple(("ready", wrong, 3) for wrong in NO_NUMBERS) + tuple(("ready", 0, wrong) for wrong in NO_NUMBERS)


def open_pairs(house, many):
    """So many asks of deal 0 with their answers, at a house."""
    return [event for _ in range(many) for event in (("ask", house, 0, 0), ("answer", house, 0, 0))]


def plain_at(kinds, events, house):
    """The events at a house, and behind them the yeses that it lacks."""
    own = [bare(event) for event in events if event[1] == house]
    for deal in range(12):
        if any(event[1] == deal for event in own) and ("yes", deal) not in own:
            own += [("yes", deal)] if any(event[0] == "yes" and event[2] == deal for event in events) else []
    return own


def plain_houses(kinds, events, order):
    """For each house whether the order, or the beginning of one, can be played there."""
    rows = [plain_at(kinds, events, house) for house in range(len(kinds))]
    return [plain_left(kind, row, order) is not None for kind, row in zip(kinds, rows)]


def plain_answer(kinds, events, ended):
    """The answer of order_of_all, by a listing of all orders."""
    bars = {}
    for order in permutations(ended):
        for many in range(len(order) + 1):
            fit = plain_houses(kinds, events, order[:many])
            if not all(fit):
                bars[order[:many]] = fit.index(False)
                break
        else:
            return Fits(order)
    return Bars(sorted(bars.items()))


def some_weaves(seed, many, deals=(0, 1, 5, 11), length=40):
    """Weaves made in many ways, as pairs of kinds and events."""
    dice, told = random.Random(seed), []
    for number in range(many):
        kinds = [dice.choice([COIN, GATE, shelf(2, 0), purse(1, 1), some_kind(dice)]) for _ in range(dice.randint(1, 4))]
        some = sorted(dice.sample(deals, dice.randint(1, len(deals))))
        if number % 2:
            told.append((kinds, fitting_weave_events(dice, kinds, dice.sample(some, len(some)))))
        else:
            told.append((kinds, some_weave_events(dice, kinds, some, dice.randint(0, length))))
    return told


WEAVES = some_weaves(51, 500)


class WeaveTest(SeenTest):
    def test_all_rows_of_events_of_a_deal(self):
        """Every event behind every row that stands, of one deal at two houses, and at three."""
        for kinds, most in (([NONE, NONE], 7), ([NONE, NONE, NONE], 4)):
            stack = [[]]
            while stack:
                ahead = stack.pop()
                for house in range(len(kinds)):
                    for event in all_events(NONE, (0,), house):
                        if weave_stands(kinds, ahead, event):
                            self.assertEqual(Weave(kinds, ahead + [event]).events, tuple(ahead + [event]))
                            if len(ahead) + 1 < most:
                                stack.append(ahead + [event])
                        else:
                            self.assert_raises(BadEvents(len(ahead)), Weave, kinds, ahead + [event])

    def test_events_put_in_and_left_out(self):
        dice = random.Random(52)
        for kinds, events in WEAVES[:60]:
            for place in range(len(events) + 1):
                self.assert_first_fault(kinds, events[:place] + events[place + 1:])
                house = dice.randrange(len(kinds))
                for event in dice.sample(all_events(kinds[house], (0, 5), house), 3):
                    self.assert_first_fault(kinds, events[:place] + [event] + events[place:])

    def assert_first_fault(self, kinds, events):
        for place, event in enumerate(events):
            if not weave_stands(kinds, events[:place], event):
                self.assert_raises(BadEvents(place), Weave, kinds, events)
                return
        self.assertEqual(len(Weave(kinds, events).events), len(events))

    def test_rules_over_all_houses(self):
        for events, place in (
            ([("ask", 0, 0, 0), ("ask", 1, 0, 0)], 1),
            ([("ask", 0, 0, 0), ("no", 0, 0), ("ask", 1, 0, 0)], None),
            ([("ask", 0, 0, 0), ("no", 1, 0), ("answer", 0, 0, 0)], None),
            ([("ask", 0, 0, 0), ("ready", 1, 0)], 1),
            ([("ask", 0, 0, 0), ("no", 0, 0), ("ready", 1, 0)], None),
            ([("ready", 0, 0), ("ask", 1, 0, 0)], 1),
            ([("ready", 0, 0), ("no", 0, 0), ("ask", 1, 0, 0)], 2),
            ([("ready", 0, 0), ("ready", 1, 0), ("yes", 1, 0), ("yes", 0, 0)], None),
            ([("ready", 0, 0), ("yes", 0, 0), ("ready", 1, 0)], 2),
            ([("ready", 0, 0), ("yes", 0, 0), ("no", 1, 0)], 2),
            ([("ready", 0, 0), ("no", 1, 0), ("yes", 0, 0)], 2),
            ([("ready", 0, 0), ("no", 1, 0), ("no", 0, 0)], None),
            ([("ready", 0, 0), ("no", 0, 0), ("ready", 1, 0), ("yes", 1, 0)], 3),
            ([("ask", 0, 0, 0), ("answer", 0, 0, 0), ("ready", 1, 0), ("yes", 1, 0)], 3),
            ([("ask", 0, 0, 0), ("answer", 0, 0, 0), ("ready", 1, 0), ("ready", 0, 0), ("yes", 1, 0)], None),
            ([("ask", 0, 0, 0), ("answer", 0, 0, 0), ("no", 0, 0), ("ready", 1, 0), ("yes", 1, 0)], 4),
            ([("ask", 0, 0, 0), ("ask", 1, 1, 0)], None),
        ):
            if place is None:
                self.assertEqual(Weave(TWO, events).events, tuple(events))
            else:
                self.assert_raises(BadEvents(place), Weave, TWO, events)

    def test_what_is_no_event_at_each_place(self):
        self.assertEqual(len(Weave(TWO, ROW).events), len(ROW))
        for place in range(len(ROW) + 1):
            for wrong in NO_EVENTS:
                self.assert_raises(BadEvents(place), Weave, TWO, ROW[:place] + [wrong] + ROW[place:])

    def test_asks_and_answers_of_the_house(self):
        kinds = [COIN, shelf(3, 0)]
        for house, asks, answers in ((0, 1, 2), (1, 4, 4)):
            for ask in range(asks):
                for answer in range(answers):
                    Weave(kinds, [("ask", house, 3, ask), ("answer", house, 3, answer)])
            self.assert_raises(BadEvents(0), Weave, kinds, [("ask", house, 3, asks)])
            self.assert_raises(BadEvents(1), Weave, kinds, [("ask", house, 3, 0), ("answer", house, 3, answers)])

    def test_120_events_of_a_house_and_121(self):
        full = open_pairs(0, 60)
        self.assertEqual(len(Weave(TWO, full).events), 120)
        self.assert_raises(BadEvents(120), Weave, TWO, full + [("ready", 0, 0)])
        self.assert_raises(BadEvents(120), Weave, TWO, full + [("ask", 0, 0, 0)])
        both = full + open_pairs(1, 60)
        self.assertEqual(len(Weave(TWO, both).events), 240)
        self.assert_raises(BadEvents(240), Weave, TWO, both + [("no", 1, 3)])
        four = [("no", house, 11) for house in range(4)] + [event for house in range(4) for event in open_pairs(house, 59)]
        self.assertEqual(len(Weave([COIN] * 4, four + [("no", house, 10) for house in range(4)]).events), 480)

    def test_what_is_no_list(self):
        for wrong in NO_ROWS:
            self.assert_raises(BadEvents(0), Weave, TWO, wrong)

    def test_attributes(self):
        told = Weave(TWO, ROW)
        self.assertEqual((told.kinds, told.events, told.deals, told.ended), (tuple(TWO), tuple(ROW), (0, 1, 11), (0,)))
        for value in (told.kinds, told.events, told.events[0], told.deals, told.ended):
            self.assertIs(type(value), tuple)
        for kinds, events in WEAVES:
            told = Weave(kinds, events)
            self.assertEqual(told.deals, tuple(sorted({event[2] for event in events})))
            self.assertEqual(told.ended, tuple(sorted({event[2] for event in events if event[0] == "yes"})))
        empty = Weave([COIN], [])
        self.assertEqual((empty.events, empty.deals, empty.ended), ((), (), ()))

    def test_what_is_passed_is_neither_kept_nor_changed(self):
        kinds, events = list(TWO), listed(ROW)
        told = Weave(kinds, events)
        self.assertEqual((kinds, events), (TWO, listed(ROW)))
        kinds.append(COIN), events[0].append(1), events.clear()
        self.assertEqual(told, Weave(kinds=tuple(TWO), events=tuple(ROW)))

    def test_equal(self):
        self.assertIs(Weave(TWO, ROW) == Weave(tuple(TWO), tuple(ROW)), True)
        self.assertIs(Weave(TWO, ROW) == Weave(TWO, ROW[:-1]), False)
        self.assertIs(Weave(TWO, ROW) == Weave(TWO + [COIN], ROW), False)
        self.assertIs(Weave(TWO, []) == Weave([GATE, COIN], []), False)
        for value in NO_OBJECTS + (History(COIN, []), ROW):
            self.assertIs(Weave(TWO, ROW) == value, False)
            self.assertIs(value == Weave(TWO, ROW), False)

    def test_wrong_values(self):
        kinds = NO_ROWS + ([], [COIN] * 5, [COIN, None], [Kind], [[COIN]], [COIN, "kind"], COIN)
        self.assert_faults(Weave, {"kinds": TWO, "events": ROW}, [
            ("kinds", kinds, BadKind("kinds")), ("events", NO_ROWS, BadEvents(0)),
        ])
        for many in (1, 2, 3, 4):
            self.assertEqual(len(Weave([COIN] * many, []).kinds), many)


class AtTest(SeenTest):
    def test_at(self):
        for kinds, events in WEAVES:
            weave = Weave(kinds, events)
            for house, kind in enumerate(kinds):
                self.assertEqual(at(weave, house), History(kind, plain_at(kinds, events, house)))

    def test_yeses_that_would_be_too_many(self):
        full = open_pairs(0, 59) + [("ready", 0, 0), ("ready", 1, 0)]
        for events, many in ((full + [("yes", 1, 0)], 120), (full + [("yes", 0, 0), ("yes", 1, 0)], 120)):
            self.assertEqual(len(at(Weave(TWO, events), 0).events), many)
        events = [("no", 0, 7)] + full + [("yes", 1, 0)]
        weave = Weave([tickets(1), COIN], events)
        self.assert_raises(TooMany("events", 120), at, weave, 0)
        self.assertEqual(at(weave, 1).events, (("ready", 0), ("yes", 0)))
        self.assertEqual((last_order(weave), fits_all(weave, [0]), order_of_all(weave)), ((0,), False, Bars([((0,), 0)])))
        self.assertIs(shows_order_of_all(weave, Bars([[[0], 0]])), True)
        open_still = Weave([NONE, COIN], events)
        self.assertEqual((fits_all(open_still, [0]), order_of_all(open_still)), (True, Fits([0])))

    def test_wrong_values(self):
        weave = Weave(TWO, ROW)
        self.assert_faults(at, {"weave": weave, "house": 1}, [
            ("weave", NO_OBJECTS + (COIN, TWO), BadValue("weave")),
            ("house", NO_NUMBERS + (-1, 2, 4, 10 ** 60), BadNumber("house")),
        ])


class OrdersOfWeavesTest(SeenTest):
    def test_last_order(self):
        for kinds, events in WEAVES:
            weave = Weave(kinds, events)
            last = {event[2]: place for place, event in enumerate(events) if event[0] == "ready"}
            self.assertEqual(last_order(weave=weave), tuple(sorted(weave.ended, key=lambda deal: last[deal])))
        again = [("ready", 0, 1), ("ready", 1, 1), ("ready", 0, 0), ("ready", 2, 1), ("yes", 1, 1), ("yes", 0, 0), ("ready", 0, 5)]
        self.assertEqual(last_order(Weave([COIN] * 3, again)), (0, 1))

    def test_against_all_orders(self):
        kept = [0, 0]
        for kinds, events in WEAVES:
            weave = Weave(kinds, events)
            wanted = plain_answer(kinds, events, weave.ended)
            told = order_of_all(weave)
            self.assertEqual(strict(told.parts), strict(wanted.parts))
            self.assertEqual(told, wanted)
            self.assertEqual(order_of_all(weave=weave), told)
            self.assertIs(shows_order_of_all(weave, told), True)
            for order in permutations(weave.ended):
                fit = all(plain_houses(kinds, events, order))
                self.assertIs(fits_all(weave, order), fit)
                self.assertIs(fits_all(weave, list(order)), fit)
                self.assertIs(shows_order_of_all(weave, Fits(order)), fit)
            kept[bool(told)] += len(weave.ended) > 1
        self.assertGreater(min(kept), 20)

    def test_the_first_house_at_which_it_does_not_fit(self):
        events = [("ask", 1, 0, 0), ("answer", 1, 0, 1), ("ask", 2, 0, 0), ("answer", 2, 0, 1)]
        events += [("ready", 1, 0), ("ready", 2, 0), ("yes", 2, 0)]
        weave = Weave([COIN] * 3, events)
        self.assertEqual(order_of_all(weave), Bars([((0,), 1)]))
        for house, wanted in ((0, False), (1, True), (2, False), (3, False), (True, False)):
            self.assertIs(shows_order_of_all(weave, Bars([[[0], house]])), wanted)

    def test_bent_papers(self):
        checked = 0
        for kinds, events in WEAVES:
            weave = Weave(kinds, events)
            right = order_of_all(weave)
            if len(right.parts[0]) > 8:
                continue
            for bent in bends(right.parts[0]):
                same = strict(bent) == strict(right.parts[0])
                self.assertIs(shows_order_of_all(weave, Bars(bent)), same and not right)
                wanted = strict(bent) in [strict(order) for order in permutations(weave.ended)]
                self.assertIs(shows_order_of_all(weave, Fits(bent)), wanted and all(plain_houses(kinds, events, bent)))
                checked += 1
            if not right:
                self.assertIs(shows_order_of_all(weave, Bars(listed(right.beginnings))), True)
                alone = [beginning for beginning, _ in right.beginnings]
                self.assertIs(shows_order_of_all(weave, Bars(alone)), False)
        self.assertGreater(checked, 1000)

    def test_any_value(self):
        weave = Weave([COIN], [("ask", 0, 0, 0), ("answer", 0, 0, 1), ("ready", 0, 0), ("yes", 0, 0)])
        for value in NO_OBJECTS + NO_ROWS + (Paper("fits", [0]), Denial("bars", [[[0], 0]]), Fits, Bars):
            self.assertIs(shows_order_of_all(weave, value), False)
        for part in NO_ROWS + NO_OBJECTS[:10] + ([None], [[0]], [[[0]]], [[[0], 0, 0]], [[[[0]], 0]], [[0, 0]], [[[False], 0]], [[[0], False]]):
            self.assertIs(shows_order_of_all(weave, Bars(part)), False)
            self.assertIs(shows_order_of_all(weave, Fits(part)), False)
        self.assertIs(shows_order_of_all(weave, Bars([[[0], 0]])), True)

    def test_seven_deals_and_eight(self):
        for many in (7, 8, 12):
            events = [event for deal in range(many) for event in (("ready", deal % 2, deal), ("yes", deal % 2, deal))]
            weave, order = Weave(TWO, events), tuple(range(many))
            self.assertEqual(last_order(weave), order)
            self.assertIs(fits_all(weave, order[::-1]), True)
            if many == 7:
                self.assertEqual(order_of_all(weave), Fits(order))
                self.assertIs(shows_order_of_all(weave, Fits(order)), True)
            else:
                self.assert_raises(TooMany("deals", 7), order_of_all, weave)
                self.assert_raises(TooMany("deals", 7), shows_order_of_all, weave, Fits(order))
                self.assert_raises(TooMany("deals", 7), shows_order_of_all, weave, None)

    def test_wrong_values(self):
        weave = Weave(TWO, ROW)
        weaves = ("weave", NO_OBJECTS + (COIN, History(COIN, [])), BadValue("weave"))
        orders = NO_ROWS + ([], [1], [0, 1], [0, 0], [None], [False], ["0"], [[0]], {0: 0}, {0}, [11], [-1])
        self.assert_faults(fits_all, {"weave": weave, "order": [0]}, [weaves, ("order", orders, BadOrder("order"))])
        self.assert_faults(last_order, {"weave": weave}, [weaves])
        self.assert_faults(order_of_all, {"weave": weave}, [weaves])
        self.assert_faults(shows_order_of_all, {"weave": weave, "value": None}, [weaves])

    def test_at_the_greatest_size(self):
        dice = random.Random(53)
        kinds = [great_kind(seed) for seed in range(3)] + [purse(8, 6)]
        events = []
        for deal in range(7):
            for house in range(3):
                for _ in range(7):
                    events += [("ask", house, deal, dice.randrange(5)), ("answer", house, deal, dice.randrange(2))]
            events += [("ask", 3, deal, 2), ("answer", 3, deal, 0)]
        events += [("ready", house, deal) for deal in range(7) for house in range(4)] + [("yes", 3, deal) for deal in range(7)]
        weave = Weave(kinds, events)
        told = self.assert_short(order_of_all, weave)
        self.assertEqual(told.beginnings, tuple((order, 3) for order in permutations(range(7))))
        self.assertIs(self.assert_short(shows_order_of_all, weave, told), True)
        self.assertEqual(len(self.assert_short(at, weave, 0).events), 112)


if __name__ == "__main__":
    unittest.main()
