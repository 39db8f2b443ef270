"""Stairs, and the weaves of a history with a stair."""

import unittest
from itertools import permutations

from ownseen.errors import BadNumber, BadValue, Misfit, TooMany
from ownseen.histories import History
from ownseen.kinds import Kind, is_sure
from ownseen.makers import chest, counter, purse, shelf
from ownseen.own import Keeps
from ownseen.stairs import StampTorn, stair, stair_weave
from ownseen.stamps import Stamped
from ownseen.weaves import at, order_of_all

from tests.helper import (
    GREAT, NO_NUMBERS, NO_OBJECTS, SeenTest, bare, by_deals, deals_with, early_spoilt, ended, plain_by_stamps, plain_left,
    right_along, some_histories, stamped_rows, step, strict, weave_stands,
)

COIN = Kind(["take"], ["done", "short"], 2, 1, [(0, 0, 1, 0), (1, 0, 0, 0)])
ROWS = stamped_rows(131, some_histories(132, 300, kinds=(COIN, shelf(2, 0), purse(3, 1), counter(3), chest(2))))


class StairTest(SeenTest):
    def test_against_a_walk(self):
        for many in range(1, 9):
            kind = stair(many)
            self.assertEqual((kind.asks, kind.answers), (tuple(f"s{k}" for k in range(many)), ("ok", "late")))
            self.assertEqual((kind.states, kind.first, is_sure(kind)), (many + 1, 0, True))
            for steps in [told for length in range(4) for told in permutations(range(many), length)]:
                state, taken = 0, []
                for one in steps:
                    answer = 1 if any(other >= one for other in taken) else 0
                    self.assertIsNone(step(kind, state, (one, 1 - answer)))
                    state = step(kind, state, (one, answer))
                    taken += [one] if answer == 0 else []
                    self.assertEqual(state, max(taken) + 1 if taken else 0)
            self.assertEqual(step(kind, 1, (0, 1)), 1)
        self.assertEqual(stair(many=3), stair(3))

    def test_errors(self):
        self.assert_faults(stair, {"many": 1}, [("many", NO_NUMBERS + (0, -1, 9, 10 ** 60), BadNumber("many"))])


class StairWeaveTest(SeenTest):
    def test_against_the_words(self):
        checked = 0
        for kind, events, stamps in ROWS:
            stamped = Stamped(History(kind, events), stamps)
            order = plain_by_stamps(deals_with(events, "yes"), by_deals(events, stamps))
            if not order:
                self.assert_raises(Misfit("history"), stair_weave, stamped)
                continue
            told = []
            for place, deal in enumerate(order):
                told += [("ask", 1, deal, place), ("answer", 1, deal, 0)]
            for event in events:
                told.append((event[0], 0) + event[1:])
                if event[0] == "ready" and event[1] in order:
                    told += [("ready", 1, event[1]), ("yes", 1, event[1])]
            weave = stair_weave(stamped)
            self.assertEqual((weave.kinds, strict(weave.events)), ((kind, stair(len(order))), strict(told)))
            self.assertEqual(stair_weave(stamped=stamped), weave)
            checked += len(order) > 1
        self.assertGreater(checked, 80)

    def test_what_such_a_weave_is(self):
        for kind, events, stamps in ROWS[:150]:
            order = plain_by_stamps(deals_with(events, "yes"), by_deals(events, stamps))
            if not order:
                continue
            weave = stair_weave(Stamped(History(kind, events), stamps))
            for place, event in enumerate(weave.events):
                self.assertTrue(weave_stands(weave.kinds, weave.events[:place], event))
            self.assertEqual(at(weave, 0), History(kind, events))
            self.assertEqual(weave.deals, tuple(sorted({event[1] for event in events})))
            second = [bare(event) for event in weave.events if event[1] == 1]
            self.assertTrue(right_along(stair(len(order)), second, by_deals(events, stamps), early_spoilt))
            fitting = [told for told in permutations(order) if plain_left(stair(len(order)), second, told) is not None]
            self.assertEqual(fitting, [order])
            self.assertIs(bool(order_of_all(weave)), plain_left(kind, events, order) is not None)

    def test_seven_deals_and_eight(self):
        for many in (7, 8, 12):
            stamped = Stamped(History(COIN, ended({deal: [] for deal in range(many)})), [GREAT - deal for deal in range(many)])
            if many == 7:
                self.assertEqual(stair_weave(stamped).events[:4], (("ask", 1, 6, 0), ("answer", 1, 6, 0), ("ask", 1, 5, 1), ("answer", 1, 5, 0)))
            else:
                self.assert_raises(TooMany("deals", 7), stair_weave, stamped)

    def test_errors(self):
        stamped = Stamped(History(COIN, ended({3: []})), [4])
        self.assert_faults(stair_weave, {"stamped": stamped}, [
            ("stamped", NO_OBJECTS + (COIN, stamped.history, Keeps([])), BadValue("stamped")),
        ])
        self.assert_raises(Misfit("history"), stair_weave, Stamped(History(COIN, [("ready", 3), ("no", 5)]), [1, 2]))

    def test_the_paper(self):
        weave = stair_weave(Stamped(History(COIN, ended({3: []})), [4]))
        paper = StampTorn(weave, [4])
        self.assertEqual((paper.word, paper.weave, paper.stamps, paper.parts), ("stamptorn", weave, (4,), (weave, (4,))))


if __name__ == "__main__":
    unittest.main()
