"""The own rule, held against a listing of all lots and of all their orders."""

import random
import unittest
from itertools import permutations

from ownseen.errors import BadValue, TooMany
from ownseen.histories import History
from ownseen.kinds import Kind
from ownseen.makers import chest, counter, purse, shelf
from ownseen.own import Breaks, Keeps, closed_lots, keeps
from ownseen.weaves import Weave

from tests.helper import (
    NO_OBJECTS, SeenTest, ended, great_kind, plain_break, plain_closed, plain_holds, plain_left, plain_lots, plain_rooms,
    seen_pairs, some_histories, strict,
)

COIN = Kind(["take"], ["done", "short"], 2, 1, [(0, 0, 1, 0), (1, 0, 0, 0)])
HISTORIES = some_histories(61, 500, kinds=(COIN, shelf(2, 0), purse(3, 1), counter(3), chest(2)))


def row_of(deals):
    """Events by which the deals have their yes, each ahead of the next one's ready."""
    return [event for deal in deals for event in (("ready", deal), ("yes", deal))]


class ClosedLotsTest(SeenTest):
    def test_against_all_lots(self):
        for kind, events in HISTORIES:
            told = closed_lots(History(kind, events))
            self.assertEqual(strict(told), strict(plain_closed(events)))

    def test_nothing_seen_and_all_seen(self):
        blind = History(COIN, ended({deal: () for deal in (0, 3, 4, 5, 9, 10, 11)}))
        self.assertEqual(closed_lots(blind), tuple(plain_lots((0, 3, 4, 5, 9, 10, 11))))
        deals = (9, 3, 11, 0, 10, 4, 5)
        told = History(COIN, row_of(deals))
        self.assertEqual(closed_lots(history=told), tuple(tuple(sorted(deals[:many])) for many in range(8)))
        self.assertEqual(closed_lots(History(COIN, [("ready", 1), ("no", 2)])), ((),))

    def test_seven_deals_and_eight(self):
        for deals in (range(8), range(12)):
            history = History(COIN, row_of(deals))
            self.assert_raises(TooMany("deals", 7), closed_lots, history)
            self.assert_raises(TooMany("deals", 7), keeps, history)
        many = History(COIN, row_of(range(7)) + [("ready", 8), ("no", 9), ("ask", 10, 0), ("ready", 11)])
        self.assertEqual(len(closed_lots(many)), 8)
        self.assertEqual(len(keeps(many).rooms), 8)

    def test_wrong_values(self):
        values = NO_OBJECTS + (COIN, Weave([COIN], []), Keeps([]))
        for function in (closed_lots, keeps):
            self.assert_faults(function, {"history": History(COIN, [])}, [("history", values, BadValue("history"))])


class KeepsTest(SeenTest):
    def test_against_all_orders(self):
        kept = {}
        for kind, events in HISTORIES:
            history, wanted = History(kind, events), plain_break(kind, events)
            told = keeps(history)
            if wanted is None:
                self.assertEqual(told, Keeps(plain_rooms(kind, events)))
                self.assertEqual(strict(told.rooms), strict(plain_rooms(kind, events)))
            else:
                self.assertEqual(told, Breaks(wanted))
                self.assertEqual(strict(told.order), strict(wanted))
            self.assertEqual(keeps(history=history), told)
            place = (bool(told), min(len(history.ended), 3), bool(seen_pairs(events)))
            kept[place] = kept.get(place, 0) + 1
        for place in ((True, 3, True), (False, 3, True), (False, 2, False), (True, 2, False), (False, 1, False), (True, 0, False)):
            self.assertGreater(kept.get(place, 0), 4, place)

    def test_breaks_is_the_first_order_not_that_by_the_shortest_beginning(self):
        # Deals 0 and 1 set, deal 2 read what 1 had set: it sticks at once if it is the first.
        history = History(shelf(3, 0), ended({0: [(1, 0)], 1: [(2, 0)], 2: [(3, 3)]}))
        self.assertEqual(keeps(history).parts, ((0, 2, 1),))

    def test_the_rest_of_the_first_order_holds_what_is_seen(self):
        # Deal 5 cannot be played; of the others 4 is seen ahead of 1, and 3 ahead of 0.
        events = [("ask", 5, 0), ("answer", 5, 1), ("ready", 5), ("ready", 4), ("ready", 3), ("yes", 4), ("yes", 3)]
        events += [("ready", 1), ("ready", 0), ("yes", 5), ("yes", 1), ("yes", 0)]
        told = keeps(History(COIN, events))
        self.assertEqual(told, Breaks(plain_break(COIN, events)))
        self.assertTrue(plain_holds(events, told.order))
        self.assertEqual(told.order, (3, 4, 0, 1, 5))

    def test_rooms_of_several_states(self):
        history = History(shelf(7, 0), ended({deal: [(deal, 0)] for deal in range(7)}))
        told = keeps(history)
        self.assertEqual(len(told.rooms), 128)
        for lot, room in told.rooms:
            self.assertEqual(room, lot or (0,))

    def test_no_deals(self):
        self.assertEqual(keeps(History(shelf(3, 2), [])).rooms, (((), (2,)),))
        self.assertEqual(keeps(History(COIN, ended({3: [(0, 1)]}))), Breaks([3]))
        self.assertEqual(keeps(History(COIN, ended({3: [(0, 1)]}, sure=False))).rooms, (((), (1,)),))

    def test_at_the_greatest_size(self):
        dice = random.Random(62)
        kind = great_kind()
        works = {deal: [(dice.randrange(5), dice.randrange(2)) for _ in range(7)] for deal in range(7)}
        history = History(kind, ended(works) + [("no", 11)])
        told = self.assert_short(keeps, history)
        self.assertEqual(len(told.rooms), 128)
        states = {plain_left(kind, history.events, order) for order in dice.sample(list(permutations(range(7))), 60)}
        self.assertTrue(states <= set(told.rooms[-1][1]))
        self.assertGreater(len(told.rooms[-1][1]), 30)

    def test_a_break_far_behind(self):
        # Each order but those with 6 as the last one fits: 6 finds one coin too few only then.
        history = History(purse(8, 7), ended({**{deal: [(2, 0)] for deal in range(6)}, 6: [(3, 0)]}))
        self.assertEqual(self.assert_short(keeps, history), Breaks(range_tuple(7)))
        few = History(purse(8, 8), ended({**{deal: [(2, 0)] for deal in range(6)}, 6: [(3, 0)]}))
        self.assertEqual(self.assert_short(keeps, few).rooms[-1], (range_tuple(7), (0,)))

    def test_a_break_in_few_of_many_orders(self):
        dice, base = random.Random(63), great_kind()
        rows = [row for row in base.rows if row[1] < 4] + [(state, 4, 0 if state else 1, state) for state in range(60)]
        kind, broken = Kind(base.asks, base.answers, 60, 0, sorted(rows)), 0
        for _ in range(12):
            works = {deal: [(dice.randrange(4), dice.randrange(2)) for _ in range(7)] for deal in range(5)}
            works[dice.randrange(5)].append((4, 0))
            history = History(kind, ended(works))
            wanted = plain_break(kind, history.events)
            self.assertIs(bool(keeps(history)), wanted is None)
            if wanted is not None:
                self.assertEqual(keeps(history).order, wanted)
                broken += 1
        self.assertTrue(0 < broken < 12)


def range_tuple(many):
    return tuple(range(many))


if __name__ == "__main__":
    unittest.main()
