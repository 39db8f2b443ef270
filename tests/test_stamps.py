"""Stamped histories, their orders, floors, and houses put together by stamps."""

import random
import unittest
from itertools import permutations

from ownseen.errors import BadNumber, BadStamps, BadValue, TooMany
from ownseen.histories import History, seen_of
from ownseen.joins import Lax, joined
from ownseen.kinds import Kind
from ownseen.makers import chest, counter, purse, shelf
from ownseen.orders import Fits
from ownseen.own import Keeps
from ownseen.stamps import Stamped, by_stamps, floor_of, is_late, joined_by
from ownseen.weaves import Weave, at

from tests.helper import (
    GREAT, NO_NUMBERS, NO_OBJECTS, NO_ROWS, SeenTest, by_deals, deals_with, ended, late_stamps, plain_by_stamps,
    plain_holds, plain_left, some_histories, some_stamps, stamped_rows, strict,
)
from tests.test_joins import some_weaves

COIN = Kind(["take"], ["done", "short"], 2, 1, [(0, 0, 1, 0), (1, 0, 0, 0)])
HISTORIES = some_histories(121, 400, kinds=(COIN, shelf(2, 0), purse(3, 1), counter(3), chest(2)))
ROWS = stamped_rows(122, HISTORIES)

# For two deals, 3 and 5: what is no row of their stamps.
NO_STAMPS = NO_ROWS + (
    [], [1], [1, 2, 3], [1, 1], [1, 2, 2], [1, 1, 2], [GREAT, GREAT], [1, True], [False, 1], [0, False], [1, None], [1, "2"], [1, 2.0], [[1], [2]],
    (1,), (1, 1), {1: 1, 2: 2}, {1, 2}, [-1, -1], [[1, 2]], "12",
)


def plain_floor(events, by_deal, deal):
    """The greatest stamp of the ended deals whose yes stands ahead of an answer to the deal, or of its ready."""
    found = [
        by_deal[other[1]]
        for place, event in enumerate(events) if event[1] == deal and event[0] in ("answer", "ready")
        for other in events[:place] if other[0] == "yes"
    ]
    return max(found) if found else None


class StampedTest(SeenTest):
    def test_what_it_keeps(self):
        history = History(COIN, ended({3: [(0, 0)], 5: []}))
        for stamps in ([4, 2], (4, 2), [-GREAT, GREAT], [0, -1]):
            stamped = Stamped(history, stamps)
            self.assertEqual((stamped.history, stamped.stamps), (history, tuple(stamps)))
            self.assertEqual(Stamped(history=history, stamps=tuple(stamps)), stamped)
        self.assertEqual(Stamped(History(COIN, []), []).stamps, ())

    def test_what_is_passed_is_copied(self):
        stamps = [4, 2]
        stamped = Stamped(History(COIN, ended({3: [], 5: []})), stamps)
        stamps[0] = 9
        self.assertEqual(stamped.stamps, (4, 2))

    def test_equal(self):
        history = History(COIN, ended({3: [], 5: []}))
        one = Stamped(history, [4, 2])
        self.assertIs(one == Stamped(History(COIN, ended({3: [], 5: []})), (4, 2)), True)
        for other in (Stamped(history, [2, 4]), Stamped(History(COIN, ended({3: [], 6: []})), [4, 2]), history, (history, (4, 2)), None):
            self.assertIs(one == other, False)
            self.assertIs(one != other, True)

    def test_errors(self):
        history = History(COIN, [("ready", 3), ("no", 5)])
        self.assert_faults(Stamped, {"history": history, "stamps": [4, 2]}, [
            ("history", NO_OBJECTS + (COIN, Weave([COIN], []), Keeps([])), BadValue("history")),
            ("stamps", NO_STAMPS, BadStamps("stamps")),
        ])
        self.assert_raises(BadStamps("stamps"), Stamped, History(COIN, []), [1])


class OrdersByStampsTest(SeenTest):
    def test_against_the_words(self):
        counts = [0, 0]
        for kind, events, stamps in ROWS:
            stamped, by_deal = Stamped(History(kind, events), stamps), by_deals(events, stamps)
            order = plain_by_stamps(deals_with(events, "yes"), by_deal)
            self.assertEqual(strict(by_stamps(stamped)), strict(order))
            late = plain_holds(events, order)
            self.assertIs(is_late(stamped), late)
            counts[late] += 1
            floors = {deal: plain_floor(events, by_deal, deal) for deal in by_deal}
            for deal in range(12):
                if deal in by_deal:
                    self.assertEqual(floor_of(stamped, deal), floors[deal])
                else:
                    self.assert_raises(BadNumber("deal"), floor_of, stamped, deal)
            self.assertIs(late, all(floors[deal] is None or floors[deal] < by_deal[deal] for deal in order))
            self.assertEqual((by_stamps(stamped=stamped), is_late(stamped=stamped)), (order, late))
        self.assertGreater(min(counts), 60)

    def test_floors_of_open_deals_and_those_called_off(self):
        events = [("ready", 0), ("yes", 0), ("ask", 1, 0), ("answer", 1, 0), ("ask", 2, 0), ("ready", 3), ("yes", 3), ("no", 1),
                  ("ask", 4, 0), ("ready", 5), ("no", 5), ("no", 6), ("answer", 4, 1)]
        stamped = Stamped(History(COIN, events), [30, 1, 2, 10, 4, 5, 6])
        self.assertEqual([floor_of(stamped, deal) for deal in range(7)], [None, 30, None, 30, 30, 30, None])
        self.assertIs(is_late(stamped), False)
        turned = Stamped(History(COIN, events), [10, 1, 2, 30, 4, 5, 6])
        self.assertEqual([floor_of(turned, deal=deal) for deal in range(7)], [None, 10, None, 10, 30, 30, None])
        self.assertIs(is_late(turned), True)

    def test_more_than_seven_deals(self):
        history = History(COIN, ended({deal: [] for deal in range(12)}))
        self.assertEqual(by_stamps(Stamped(history, list(range(12, 0, -1)))), tuple(range(11, -1, -1)))

    def test_errors(self):
        stamped = Stamped(History(COIN, [("ready", 3), ("no", 5)]), [4, 2])
        values = ("stamped", NO_OBJECTS + (COIN, stamped.history, Keeps([])), BadValue("stamped"))
        self.assert_faults(by_stamps, {"stamped": stamped}, [values])
        self.assert_faults(is_late, {"stamped": stamped}, [values])
        self.assert_faults(floor_of, {"stamped": stamped, "deal": 3}, [
            values, ("deal", NO_NUMBERS + (0, 4, -1, 11, 12, 10 ** 60), BadNumber("deal")),
        ])
        one = Stamped(History(COIN, [("ready", 1)]), [4])
        self.assert_raises(BadNumber("deal"), floor_of, one, True)


class JoinedByTest(SeenTest):
    def test_against_each_house(self):
        dice, counts = random.Random(123), {}
        for kinds, events in some_weaves(124, 600):
            weave = Weave(kinds, events)
            stamps = some_stamps(dice, len(weave.deals))
            if dice.random() < 0.7:
                # The order of the last readies, or such, as stamps.
                order = sorted(weave.deals, key=lambda deal: ([event[2] for event in events if event[0] == "ready"] + [deal]).index(deal))
                stamps = [sorted(stamps)[order.index(deal)] for deal in weave.deals]
            by_deal = dict(zip(weave.deals, stamps))
            wanted = Fits(plain_by_stamps(weave.ended, by_deal))
            for house, kind in reversed(list(enumerate(kinds))):
                here = list(at(weave, house).events)
                order = plain_by_stamps(deals_with(here, "yes"), by_deal)
                if plain_left(kind, here, order) is None:
                    wanted = Lax(house, order)
            told = joined_by(weave, stamps)
            self.assertEqual((told, strict(told.parts)), (wanted, strict(wanted.parts)))
            self.assertEqual(joined_by(weave=weave, stamps=tuple(stamps)), told)
            place = (bool(told), not told and told.house > 0)
            counts[place] = counts.get(place, 0) + 1
        self.assertGreater(min(counts.values()), 25)
        self.assertEqual(len(counts), 3)

    def test_houses_of_the_own_rule_fit_by_stamps_that_are_late_at_all_of_them(self):
        dice, checked = random.Random(125), 0
        for kinds, events in some_weaves(126, 300):
            weave = Weave(kinds, events)
            if joined(weave):
                seen = {pair for house in range(len(kinds)) for pair in seen_of(at(weave, house))}
                stamps = late_stamps(dice, seen, weave.deals)
                self.assertEqual(joined_by(weave, stamps), Fits(plain_by_stamps(weave.ended, dict(zip(weave.deals, stamps)))))
                checked += len(weave.ended) > 1
        self.assertGreater(checked, 50)

    def test_more_deals_and_more_events_than_may_be(self):
        events = [(word, deal % 2, deal) for deal in range(12) for word in ("ready", "yes")]
        weave = Weave([COIN, COIN], events)
        self.assertEqual(joined_by(weave, list(range(12, 0, -1))), Fits(list(range(11, -1, -1))))
        asks = [(word, 1, 5, 0) for _ in range(59) for word in ("ask", "answer")] + [("ask", 1, 5, 0)]
        long = Weave([COIN, COIN], asks + [("ready", 0, 0), ("ready", 1, 0), ("yes", 0, 0)])
        self.assert_raises(TooMany("events", 120), joined_by, long, [1, 2])
        self.assert_raises(BadStamps("stamps"), joined_by, long, [1, 1])
        broken = [("ask", 0, 9, 0), ("answer", 0, 9, 1), ("ready", 0, 9), ("yes", 0, 9)]
        self.assert_raises(TooMany("events", 120), joined_by, Weave([COIN, COIN], broken + list(long.events)), [1, 2, 3])

    def test_errors(self):
        weave = Weave([COIN, COIN], [("ready", 0, 3), ("no", 1, 5)])
        self.assert_faults(joined_by, {"weave": weave, "stamps": [4, 2]}, [
            ("weave", NO_OBJECTS + (COIN, History(COIN, []), Keeps([])), BadValue("weave")),
            ("stamps", NO_STAMPS, BadStamps("stamps")),
        ])

    def test_all_stamps_of_three_deals(self):
        events = [(word, 0, deal, *rest) for word, deal, *rest in ended({0: [(2, 0)], 1: [(0, 0)], 2: [(4, 4)]})]
        weave = Weave([purse(3, 1)], events)
        for stamps in permutations((-5, 0, GREAT)):
            order = plain_by_stamps((0, 1, 2), dict(zip((0, 1, 2), stamps)))
            left = plain_left(purse(3, 1), list(at(weave, 0).events), order)
            self.assertEqual(joined_by(weave, stamps), Lax(0, order) if left is None else Fits(order))


if __name__ == "__main__":
    unittest.main()
