"""Houses put together, held against a plain listing of orders and of rings."""

import random
import unittest
from itertools import permutations

from ownseen.errors import BadValue, Misfit, TooMany
from ownseen.histories import History
from ownseen.joins import Lax, Ring, agreed, completed, joined
from ownseen.kinds import Kind
from ownseen.makers import chest, counter, purse, shelf, tickets
from ownseen.orders import Fits
from ownseen.own import Keeps
from ownseen.weaves import Weave, at, fits_all, last_order

from tests.helper import (
    NO_OBJECTS, NO_ROWS, SeenTest, deals_with, ended, fitting_events, fitting_weave_events, great_kind, plain_break,
    plain_holds, seen_pairs, some_kind, some_weave_events, strict,
)

COIN = Kind(["take"], ["done", "short"], 2, 1, [(0, 0, 1, 0), (1, 0, 0, 0)])
KINDS = (COIN, shelf(2, 0), purse(3, 1), counter(3), chest(2), tickets(3))


def some_weaves(seed, many):
    dice = random.Random(seed)
    told = []
    for number in range(many):
        kinds = [dice.choice(KINDS) if dice.random() < 0.7 else some_kind(dice) for _ in range(dice.randint(1, 4))]
        deals = sorted(dice.sample((0, 1, 2, 5, 11), dice.randint(1, 4)))
        made = some_weave_events if number % 3 == 0 else fitting_weave_events
        told.append((kinds, made(dice, kinds, deals, 30 if number % 3 == 0 else 2)))
    return told


def plain_go_together(rows):
    for one in rows:
        for deal in deals_with(one, "yes"):
            for other in rows:
                words = [event[0] for event in other if event[1] == deal]
                if words and "yes" not in words and ("ready" not in words or "no" in words):
                    return False
                if "no" in words:
                    return False
    return True


def plain_completed(rows):
    ended_somewhere = sorted({deal for events in rows for deal in deals_with(events, "yes")})
    return [
        events + [("yes", deal) for deal in ended_somewhere
                  if deal in deals_with(events, "ready") and deal not in deals_with(events, "yes") + deals_with(events, "no")]
        for events in rows
    ]


def plain_agreed(kinds, rows):
    """The answer by listing all rows of deals, and all orders."""
    seen = [seen_pairs(events) for events in rows]
    deals = sorted({deal for events in rows for deal in deals_with(events, "yes")})
    for many in range(2, len(deals) + 1):
        for ring in permutations(deals, many):
            pairs = [(ring[at], ring[(at + 1) % many]) for at in range(many)]
            if all(any(pair in told for told in seen) for pair in pairs):
                return Ring(ring, [min(house for house, told in enumerate(seen) if pair in told) for pair in pairs])
    for house, (kind, events) in enumerate(zip(kinds, rows)):
        order = plain_break(kind, events)
        if order is not None:
            return Lax(house, order)
    for order in permutations(deals):
        if all(plain_holds(events, order) for events in rows):
            return Fits(order)
    return None


def some_sets(seed, many):
    """Histories of one to four houses, some of which go together."""
    dice = random.Random(seed)
    told = []
    for number in range(many):
        kinds = [dice.choice(KINDS) if dice.random() < 0.7 else some_kind(dice) for _ in range(dice.randint(1, 4))]
        deals = sorted(dice.sample((0, 1, 2, 5, 11), dice.randint(1, 4)))
        rows = []
        for kind in kinds:
            some = [deal for deal in deals if dice.random() < 0.8]
            events = fitting_events(dice, kind, some, most=2) if number % 4 else [
                event for deal in dice.sample(some, len(some)) for event in (("ready", deal), ("yes", deal))
            ]
            if number % 3:
                # What is ready here is mostly ended elsewhere, or nowhere.
                events = [event for event in events if event[0] != "yes" or dice.random() < 0.8]
                events += [("ready", deal) for deal in some if ("ready", deal) not in events and dice.random() < 0.9
                           and ([event[0] for event in events if event[1] == deal] or ["answer"])[-1] == "answer"]
            rows.append(events)
        told.append((kinds, rows))
    return told


class JoinedTest(SeenTest):
    def test_against_each_house(self):
        counts = {}
        for kinds, events in some_weaves(101, 500):
            weave = Weave(kinds, events)
            told, broken = joined(weave), None
            for house, kind in enumerate(kinds):
                order = plain_break(kind, list(at(weave, house).events))
                if order is not None:
                    broken = Lax(house, order)
                    break
            self.assertEqual(told, Fits(last_order(weave)) if broken is None else broken)
            self.assertEqual(strict(told.parts), strict((told.order,) if told else (told.house, told.order)))
            self.assertEqual(joined(weave=weave), told)
            if told:
                self.assertIs(fits_all(weave, told.order), True)
                for house in range(len(kinds)):
                    here = list(at(weave, house).events)
                    self.assertTrue(plain_holds(here, told.order))
            place = (bool(told), len(weave.ended) > 1, not told and told.house > 0)
            counts[place] = counts.get(place, 0) + 1
        for place in ((True, True, False), (False, True, False), (False, True, True)):
            self.assertGreater(counts.get(place, 0), 20, place)

    def test_weaves_go_together_and_what_they_see_goes_round_nowhere(self):
        for kinds, events in some_weaves(102, 250):
            weave = Weave(kinds, events)
            histories = [at(weave, house) for house in range(len(kinds))]
            self.assertEqual(completed(histories), tuple(histories))
            told = agreed(histories)
            self.assertNotIsInstance(told, Ring)
            self.assertEqual(bool(told), bool(joined(weave)))
            if not told:
                self.assertEqual(told, joined(weave))

    def test_more_than_seven_deals_over_all_houses(self):
        kinds = [COIN, COIN]
        events = [(word, deal // 6, deal) for deal in range(12) for word in ("ready", "yes")]
        self.assertEqual(joined(Weave(kinds, events)), Fits(list(range(12))))
        for many in (7, 8):
            weave = Weave(kinds, [(word, 1, deal) for deal in range(many) for word in ("ready", "yes")])
            if many == 7:
                self.assertEqual(joined(weave), Fits(list(range(7))))
            else:
                self.assert_raises(TooMany("deals", 7), joined, weave)

    def test_too_many_deals_come_ahead_of_a_house_that_breaks(self):
        broken = [("ask", 0, 11, 0), ("answer", 0, 11, 1), ("ready", 0, 11), ("yes", 0, 11)]
        many = [(word, 1, deal) for deal in range(8) for word in ("ready", "yes")]
        self.assertEqual(joined(Weave([COIN, COIN], broken)), Lax(0, [11]))
        self.assert_raises(TooMany("deals", 7), joined, Weave([COIN, COIN], broken + many))

    def test_more_events_than_may_be(self):
        # 119 events at house 1, and two yeses that came elsewhere only.
        asks = [(word, 1, 5, 0) for _ in range(57) for word in ("ask", "answer")]
        ready = [("ready", house, deal) for house in (0, 1) for deal in (0, 1)]
        events = asks + [("ask", 1, 5, 0), ("no", 1, 6), ("no", 1, 7)] + ready + [("yes", 0, 0), ("yes", 0, 1)]
        self.assertEqual(len([event for event in events if event[1] == 1]), 119)
        self.assert_raises(TooMany("events", 120), joined, Weave([COIN, COIN], events))
        self.assertTrue(joined(Weave([COIN, COIN], events[:-1])))
        # Too many events come ahead of too many deals, whatever house has them.
        many = [(word, 0, deal) for deal in range(2, 12) if deal not in (5, 6, 7) for word in ("ready", "yes")]
        self.assert_raises(TooMany("events", 120), joined, Weave([COIN, COIN], events + many))
        self.assert_raises(TooMany("deals", 7), joined, Weave([COIN, COIN], events[:-1] + many))

    def test_errors(self):
        self.assert_faults(joined, {"weave": Weave([COIN], [])}, [
            ("weave", NO_OBJECTS + (COIN, History(COIN, []), Keeps([])), BadValue("weave")),
        ])


class CompletedTest(SeenTest):
    def test_against_the_words(self):
        counts = [0, 0, 0]
        for kinds, rows in some_sets(103, 700):
            histories = [History(kind, events) for kind, events in zip(kinds, rows)]
            if not plain_go_together(rows):
                self.assert_raises(Misfit("histories"), completed, histories)
                self.assert_raises(Misfit("histories"), agreed, histories)
                counts[0] += 1
                continue
            told = completed(histories)
            self.assertIsInstance(told, tuple)
            self.assertEqual([strict(history.events) for history in told], [strict(row) for row in plain_completed(rows)])
            self.assertEqual([history.kind for history in told], list(kinds))
            self.assertEqual(completed(histories=tuple(histories)), told)
            counts[1 if list(told) == histories else 2] += 1
        self.assertGreater(min(counts), 40)

    def test_what_does_not_go_together(self):
        sure = History(COIN, [("ready", 3), ("yes", 3)])
        for events, fine in (
            ([], True), ([("ready", 3)], True), ([("ask", 3, 0)], False), ([("ask", 3, 0), ("answer", 3, 0)], False),
            ([("no", 3)], False), ([("ready", 3), ("no", 3)], False), ([("ready", 4)], True), ([("no", 4)], True),
        ):
            for histories in ([sure, History(COIN, events)], [History(COIN, events), sure]):
                if fine:
                    self.assertEqual(len(completed(histories)), 2)
                else:
                    self.assert_raises(Misfit("histories"), completed, histories)

    def test_yeses_ascending_and_at_all_houses(self):
        rows = [[("ready", 9), ("ready", 2), ("ready", 5)], [("ready", 5), ("yes", 5)], [("ready", 2), ("yes", 2), ("ready", 9), ("yes", 9)]]
        told = completed([History(COIN, events) for events in rows])
        self.assertEqual(told[0].events[3:], (("yes", 2), ("yes", 5), ("yes", 9)))
        self.assertEqual([history.events for history in told[1:]], [tuple(events) for events in rows[1:]])

    def test_too_many_events(self):
        asks = [(word, 5, 0) for _ in range(59) for word in ("ask", "answer")]
        full = History(COIN, asks + [("ready", 0), ("ready", 1)])
        one, two = History(COIN, [("ready", 0), ("yes", 0)]), History(COIN, [("ready", 0), ("yes", 0), ("ready", 1), ("yes", 1)])
        short = History(COIN, full.events[2:])
        self.assertEqual(len(full.events), 120)
        for histories in ([full, one], [two, full], [one, two, full]):
            self.assert_raises(TooMany("events", 120), completed, histories)
            self.assert_raises(TooMany("events", 120), agreed, histories)
        self.assertEqual(completed([full])[0], full)
        self.assertEqual([len(history.events) for history in completed([short, two])], [120, 4])

    def test_errors(self):
        history = History(COIN, [])
        rows = NO_ROWS + ([], [history] * 5, [None], [history, COIN], [[history]], history, Weave([COIN], []), [Weave([COIN], [])])
        for function in (completed, agreed):
            self.assert_faults(function, {"histories": [history]}, [("histories", rows, BadValue("histories"))])
            self.assertTrue(function((history,) * 4))

    def test_what_is_passed_stays(self):
        ready, sure = History(COIN, [("ready", 3)]), History(COIN, [("ready", 3), ("yes", 3)])
        histories = [ready, sure]
        first = completed(histories)
        self.assertEqual((histories, ready.events), ([ready, sure], (("ready", 3),)))
        histories[0] = sure
        self.assertEqual(first, (sure, sure))
        self.assertEqual(completed([ready, sure]), first)


class AgreedTest(SeenTest):
    def test_against_all_rings_and_orders(self):
        counts = {}
        for kinds, rows in some_sets(104, 900):
            if not plain_go_together(rows):
                continue
            histories = [History(kind, events) for kind, events in zip(kinds, rows)]
            wanted = plain_agreed(kinds, plain_completed(rows))
            told = agreed(histories)
            self.assertEqual((type(told), strict(told.parts)), (type(wanted), strict(wanted.parts)))
            self.assertEqual(agreed(histories=tuple(histories)), wanted)
            place = (told.word, min(len(told.parts[0]) if told.word != "lax" else 0, 3))
            counts[place] = counts.get(place, 0) + 1
        for place in (("ring", 2), ("lax", 0), ("fits", 2), ("fits", 3)):
            self.assertGreater(counts.get(place, 0), 8, (place, counts))

    def test_rings_of_many_deals(self):
        def sees(one, other):
            return History(COIN, [("ready", one), ("yes", one), ("ready", other), ("yes", other)])
        self.assertEqual(agreed([sees(0, 4), sees(4, 9), sees(9, 2), sees(2, 0)]), Ring([0, 4, 9, 2], [0, 1, 2, 3]))
        self.assertEqual(agreed([sees(9, 2), sees(4, 9), sees(2, 4)]), Ring([2, 4, 9], [2, 1, 0]))
        self.assertEqual(agreed([sees(9, 2), sees(4, 9), sees(1, 4)]), Fits([1, 4, 9, 2]))
        # A shorter ring comes ahead of a lesser one, a lesser one ahead of others as short.
        self.assertEqual(agreed([
            History(COIN, [(word, deal) for deal in (0, 1, 2) for word in ("ready", "yes")]),
            History(COIN, [("ready", 8), ("yes", 8), ("ready", 7), ("yes", 7)]), sees(7, 8), sees(2, 0),
        ]), Ring([0, 2], [0, 3]))
        self.assertEqual(agreed([sees(7, 8), sees(8, 7), sees(3, 5), sees(5, 3)]), Ring([3, 5], [2, 3]))

    def test_a_ring_comes_ahead_of_a_house_that_breaks(self):
        broken = [("ask", 6, 0), ("answer", 6, 1), ("ready", 6), ("yes", 6)]
        one = History(COIN, broken + [("ready", 1), ("yes", 1), ("ready", 2), ("yes", 2)])
        two = History(COIN, [("ready", 2), ("yes", 2), ("ready", 1), ("yes", 1)])
        self.assertEqual(agreed([one, two]), Ring([1, 2], [0, 1]))
        self.assertEqual(agreed([one]), Lax(0, [6, 1, 2]))

    def test_a_house_that_breaks_only_when_it_is_completed(self):
        both = History(COIN, ended({0: [(0, 0)], 1: [(0, 0)]}, sure=False))
        gate = History(tickets(2), ended({0: [(0, 0)], 1: [(0, 1)]}))
        self.assertEqual(agreed([both]), Fits([]))
        self.assertEqual(agreed([gate, both]), Lax(0, [1, 0]))
        calm = History(tickets(2), [("ready", 0), ("yes", 0), ("ready", 1), ("yes", 1)])
        self.assertEqual(agreed([calm, both]), Lax(1, [0, 1]))

    def test_seven_deals_and_eight(self):
        rows = [[(word, deal) for deal in deals for word in ("ready", "yes")] for deals in (range(7), range(5, 12), range(4, 12))]
        one, two, three = (History(COIN, events) for events in rows)
        self.assertEqual(agreed([one, two]), Fits(list(range(12))))
        self.assert_raises(TooMany("deals", 7), agreed, [one, three])
        ready = History(COIN, [("ready", deal) for deal in range(8)])
        self.assertEqual(agreed([ready]), Fits([]))
        self.assertEqual(agreed([ready, one]), Fits(list(range(7))))
        self.assert_raises(TooMany("deals", 7), agreed, [ready, one, History(COIN, [("ready", 7), ("yes", 7)])])
        self.assertEqual(len(completed([ready, three, one])), 3)

    def test_too_many_deals_come_ahead_of_a_ring_and_of_a_house_that_breaks(self):
        many = History(COIN, [(word, deal) for deal in range(8) for word in ("ready", "yes")])
        broken = History(COIN, ended({11: [(0, 1)]}))
        turned = History(COIN, [("ready", 1), ("yes", 1), ("ready", 0), ("yes", 0)])
        for histories in ([broken, many], [turned, many], [many, turned, broken]):
            self.assert_raises(TooMany("deals", 7), agreed, histories)

    def test_at_the_greatest_size(self):
        dice, kind = random.Random(105), great_kind()
        histories = []
        for _ in range(4):
            works = {deal: [(dice.randrange(5), dice.randrange(2)) for _ in range(7)] for deal in dice.sample(range(7), 7)}
            histories.append(History(kind, ended(works)))
        self.assertEqual(self.assert_short(agreed, histories), Fits(list(range(7))))
        around = [History(COIN, [(word, deal) for deal in row for word in ("ready", "yes")])
                  for row in (range(0, 7), range(3, 10), range(6, 12), (11, 0))]
        self.assertEqual(self.assert_short(agreed, around).deals, (0, 6, 11))


if __name__ == "__main__":
    unittest.main()
