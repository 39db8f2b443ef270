"""Which ready deals may have their yeses, held against each lot of them put behind by the test."""

import random
import unittest

from ownseen.errors import BadNumber, BadValue, TooMany
from ownseen.histories import History
from ownseen.kinds import Kind
from ownseen.makers import chest, counter, line, purse, shelf
from ownseen.own import Keeps, keeps
from ownseen.watches import Lets, Spoils, always, lets
from ownseen.weaves import Weave

from tests.helper import (
    NO_NUMBERS, NO_OBJECTS, SeenTest, deals_with, ended, great_kind, plain_break, plain_left, plain_lots, plain_rooms,
    ready_deals, some_histories, strict,
)

COIN = Kind(["take"], ["done", "short"], 2, 1, [(0, 0, 1, 0), (1, 0, 0, 0)])
HISTORIES = some_histories(71, 400, deals=(0, 1, 2, 5, 7, 11), kinds=(COIN, shelf(2, 0), purse(3, 1), counter(3), chest(2)))


def opened(dice, events):
    """The events without some of their yeses, nothing else of these deals being behind them."""
    return [event for event in events if event[0] != "yes" or dice.random() < 0.5]


def plain_judged(kind, events, lots):
    """The answer for these lots of ready deals, the last of which has all."""
    for lot in lots:
        order = plain_break(kind, events + [("yes", deal) for deal in lot])
        if order is not None:
            return Spoils(lot, order)
    return Lets(plain_rooms(kind, events + [("yes", deal) for deal in lots[-1]]))


def plain_always(kind, events):
    return plain_judged(kind, events, plain_lots(ready_deals(events)))


def plain_lets(kind, events, deal):
    events = events + [("ready", deal)]
    return plain_judged(kind, events, [lot for lot in plain_lots(ready_deals(events)) if deal in lot])


def may_be_ready(events, deal):
    words = [event[0] for event in events if event[1] == deal]
    return bool(words) and not {"ready", "yes", "no"} & set(words) and words[-1] != "ask"


class WatchesTest(SeenTest):
    def test_always_against_all_lots(self):
        dice, told_of = random.Random(72), {}
        for kind, events in HISTORIES:
            events = opened(dice, events)
            history, wanted = History(kind, events), plain_always(kind, events)
            told = always(history)
            self.assertEqual((told.word, strict(told.parts)), (wanted.word, strict(wanted.parts)))
            self.assertEqual(told, wanted)
            self.assertEqual(always(history=history), told)
            place = (bool(told), min(len(history.readied), 2), not told and min(len(told.deals), 2))
            told_of[place] = told_of.get(place, 0) + 1
        for place in ((True, 2, False), (True, 0, False), (False, 2, 0), (False, 2, 1), (False, 2, 2), (False, 1, 1)):
            self.assertGreater(told_of.get(place, 0), 1, place)

    def test_lets_against_all_lots(self):
        dice, told_of = random.Random(73), {}
        for kind, events in HISTORIES:
            events = opened(dice, events)
            some = dice.choice(sorted({event[1] for event in events}) or [0])
            events = [event for event in events if event[1] != some or event[0] not in ("ready", "yes", "no")]
            history = History(kind, events)
            for deal in range(12):
                if not may_be_ready(events, deal):
                    self.assert_raises(BadNumber("deal"), lets, history, deal)
                    continue
                told, wanted = lets(history, deal), plain_lets(kind, events, deal)
                self.assertEqual((told.word, strict(told.parts)), (wanted.word, strict(wanted.parts)))
                self.assertEqual(lets(history=history, deal=deal), wanted)
                place = (bool(told), not told and min(len(told.deals), 2), bool(history.readied))
                told_of[place] = told_of.get(place, 0) + 1
        for place in ((True, False, True), (True, False, False), (False, 1, False), (False, 1, True), (False, 2, True)):
            self.assertGreater(told_of.get(place, 0), 3, place)

    def test_always_without_ready_deals_is_keeps(self):
        for kind, events in HISTORIES[:150]:
            events = [event for event in events if event[0] != "ready" or ("yes", event[1]) in events]
            history = History(kind, events)
            wanted = keeps(history)
            self.assertEqual(always(history), Lets(wanted.rooms) if wanted else Spoils((), wanted.order))

    def test_a_ready_sees_all_yeses_ahead_of_it(self):
        # Deal 1 read the old worth; it stands ahead of 0 only as long as it has not seen its yes.
        wide = shelf(2, 0)
        events = [("ask", 1, 2), ("answer", 1, 1), ("ask", 0, 1), ("answer", 0, 0), ("ready", 0)]
        self.assertEqual(lets(History(wide, events), 1), Spoils([0, 1], [0, 1]))
        self.assertEqual(lets(History(wide, events + [("yes", 0)]), 1), Spoils([1], [0, 1]))
        self.assertEqual(always(History(wide, events + [("ready", 1)])), Spoils([0, 1], [0, 1]))

    def test_spoilt_without_any_yes(self):
        broken = ended({0: [(0, 1)]})
        history = History(COIN, broken + [("ready", 4), ("ask", 5, 0), ("answer", 5, 1)])
        self.assertEqual(always(history), Spoils((), (0,)))
        self.assertEqual(lets(history, 5), Spoils((5,), (0, 5)))

    def test_the_first_spoilt_lot(self):
        # Three took a coin where two lie: any two fit, all three do not.
        wide = purse(2, 2)
        three = ended({deal: [(2, 0)] for deal in (2, 6, 9)}, sure=False)
        self.assertEqual(always(History(wide, three)), Spoils([2, 6, 9], [2, 6, 9]))
        four = ended({deal: [(2, 0)] for deal in (2, 6, 9, 10)}, sure=False)
        self.assertEqual(always(History(wide, four)), Spoils([2, 6, 9], [2, 6, 9]))
        self.assertEqual(lets(History(wide, four[:-1]), 10), Spoils([2, 6, 10], [2, 6, 10]))

    def test_noes_take_ready_deals_away(self):
        events = ended({0: [(0, 0)], 1: [(0, 0)]}, sure=False)
        self.assertEqual(always(History(COIN, events)), Spoils([0, 1], [0, 1]))
        self.assertEqual(always(History(COIN, events + [("no", 0)])).rooms, (((), (1,)), ((1,), (0,))))

    def test_a_thing_put_in_twice_bars_for_ever(self):
        wide = line(2, 2)
        events = [event for deal in (0, 1) for event in (("ask", deal, deal), ("answer", deal, 0))]
        events += [(word, deal) for word in ("ready", "yes") for deal in (0, 1)]
        for answer in (3, 4):
            taken = History(wide, events + [("ask", 2, 2), ("answer", 2, answer)])
            self.assertIs(bool(lets(taken, 2)), False)

    def test_houses_that_let_always_keep(self):
        for kind, events in HISTORIES[:200]:
            kept, off = [], {}
            for event in events:
                if event[1] in off:
                    continue
                if event[0] == "ready" and may_be_ready(kept, event[1]) and not lets(History(kind, kept), event[1]):
                    off[event[1]] = True
                    continue
                kept.append(event)
                self.assertIs(bool(always(History(kind, kept))), True)
            self.assertIs(bool(keeps(History(kind, kept))), True)

    def test_more_than_120_events(self):
        wide = purse(8, 8)
        events = [("no", 9)] + ended({deal: [(0, 1)] * 8 for deal in range(7)}, sure=False)
        self.assertEqual(len(events), 120)
        history = History(wide, events)
        self.assertEqual(always(history), Lets(plain_rooms(wide, events + [("yes", deal) for deal in range(7)])))
        opened_one = History(wide, [event for event in events if event != ("ready", 3)] + [("no", 10)])
        self.assertEqual(len(opened_one.events), 120)
        self.assertEqual(len(lets(opened_one, 3).rooms), 128)
        bad = [("answer", 6, 0) if event == ("answer", 6, 1) else event for event in events]
        told = always(History(wide, bad))
        self.assertEqual(told, Spoils([6], [6]))

    def test_seven_deals_and_eight(self):
        for many in (7, 8):
            ready = [("ready", deal) for deal in range(many)]
            some_ended = ready + [("yes", deal) for deal in range(0, many, 2)]
            for events in (ready, some_ended, ready + [("yes", deal) for deal in range(many)]):
                history = History(COIN, events + [("ask", 9, 0), ("no", 10)])
                if many == 7:
                    self.assertTrue(always(history))
                else:
                    self.assert_raises(TooMany("deals", 7), always, history)
            fresh = [("ask", 11, 0), ("answer", 11, 0)]
            history = History(COIN, fresh + [event for event in some_ended if event[1] != 1])
            if many == 7:
                self.assertTrue(lets(history, 11))
            else:
                self.assert_raises(TooMany("deals", 7), lets, history, 11)
                self.assert_raises(BadNumber("deal"), lets, history, 0)

    def test_wrong_values(self):
        history = History(COIN, [
            ("ask", 0, 0), ("answer", 0, 0), ("ready", 1), ("ready", 2), ("yes", 2), ("no", 3), ("ask", 4, 0),
            ("ask", 5, 0), ("answer", 5, 1), ("no", 5), ("ask", 6, 0), ("answer", 6, 1), ("ask", 6, 0),
        ])
        histories = ("history", NO_OBJECTS + (COIN, Weave([COIN], []), Keeps([])), BadValue("history"))
        self.assert_faults(always, {"history": history}, [histories])
        self.assert_faults(lets, {"history": history, "deal": 0}, [
            histories, ("deal", NO_NUMBERS + (1, 2, 3, 4, 5, 6, 7, 11, 12, -1, 10 ** 60), BadNumber("deal")),
        ])

    def test_true_is_no_deal(self):
        history = History(COIN, [("ask", 1, 0), ("answer", 1, 0)])
        self.assertTrue(lets(history, 1))
        self.assert_raises(BadNumber("deal"), lets, history, True)

    def test_the_history_stays_as_it_is(self):
        events = ended({0: [(0, 0)], 1: [(0, 0)]}, sure=False)[:-1]
        history = History(COIN, events)
        first = (always(history), lets(history, 1), keeps(history))
        self.assertEqual((always(history), lets(history, 1), keeps(history)), first)
        self.assertEqual((history, history.readied, history.opened), (History(COIN, events), (0,), (0, 1)))

    def test_at_the_greatest_size(self):
        dice, kind = random.Random(75), great_kind()
        works = {deal: [(dice.randrange(5), dice.randrange(2)) for _ in range(8 if deal < 4 else 7)] for deal in range(7)}
        history = History(kind, ended(works, sure=False) + [("no", 11)])
        told = self.assert_short(always, history)
        self.assertEqual(len(told.rooms), 128)
        self.assertEqual(len(self.assert_short(lets, History(kind, history.events[:-2]), 6).rooms), 128)

    def test_the_last_lot_alone_is_spoilt(self):
        # All lots but the greatest one are sound, so that each of them must be looked at.
        history = History(purse(8, 6), ended({deal: [(2, 0)] for deal in range(7)}, sure=False))
        self.assertEqual(self.assert_short(always, history), Spoils(range7(), range7()))

    def test_each_lot_must_be_looked_at(self):
        # The state 8 * place + many counts the deals that did ask 4, which sticks at the seventh one;
        # the other asks only change the place, each in its own way.
        dice, rows = random.Random(76), []
        for ask in range(4):
            places = dice.sample(range(7), 7)
            rows += [(8 * at + many, ask, 0, 8 * places[at] + many) for at in range(7) for many in range(8)]
        rows += [(8 * at + many, 4, int(many > 5), 8 * at + min(many + 1, 7)) for at in range(7) for many in range(8)]
        kind = Kind(["a", "b", "c", "d", "e"], ["x", "y"], 56, 0, sorted(rows))
        works = {deal: [(dice.randrange(4), 0) for _ in range(6)] + [(4, 0)] for deal in range(7)}
        events = ended(works, sure=False)
        self.assertEqual(len(events), 105)
        self.assertEqual(self.assert_short(always, History(kind, events)), Spoils(range7(), range7()))
        self.assertEqual(self.assert_short(lets, History(kind, events[:-1]), 6), Spoils(range7(), range7()))
        self.assertIsNone(plain_left(kind, events, range7()))


def range7():
    return tuple(range(7))


if __name__ == "__main__":
    unittest.main()
