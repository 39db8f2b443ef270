"""Playing operations on kinds, held against a look along the rows."""

import random
import unittest
from itertools import product

from ownseen.errors import BadKind, BadNumber
from ownseen.kinds import Kind
from ownseen.plays import after, answers_to, played, reachable

from tests.helper import (
    NO_NUMBERS, NO_OBJECTS, NO_ROWS, SeenTest, all_works, great_kind, listed, lists_from, made_kinds, play, some_kinds, step,
)

BOX = Kind(["put", "take"], ["ok", "short"], 2, 0, [(0, 0, 0, 1), (0, 1, 1, 0), (1, 0, 0, 1), (1, 1, 0, 0)])


class PlaysTest(SeenTest):
    def test_after_and_answers(self):
        for kind in some_kinds(11, 80) + made_kinds():
            for state in range(kind.states):
                for ask in range(len(kind.asks)):
                    answers = [row[2] for row in kind.rows if row[:2] == (state, ask)]
                    self.assertEqual(answers_to(kind, state, ask), tuple(answers))
                    for answer in range(len(kind.answers)):
                        self.assertEqual(after(kind, state, ask, answer), step(kind, state, (ask, answer)))

    def test_by_name(self):
        self.assertEqual(after(kind=BOX, state=0, ask=0, answer=0), 1)
        self.assertEqual(answers_to(kind=BOX, state=0, ask=1), (1,))
        self.assertEqual(played(kind=BOX, state=0, operations=[(0, 0)]), 1)
        self.assertEqual(reachable(kind=BOX), (0, 1))

    def test_played(self):
        for kind in some_kinds(12, 40):
            works = all_works(kind)[:6]
            for state in range(kind.states):
                self.assertEqual(played(kind, state, ()), state)
                for many in range(1, 4):
                    for told in product(works, repeat=many):
                        wanted = play(kind, state, told)
                        self.assertEqual(played(kind, state, told), wanted)
                        self.assertEqual(played(kind, state, listed(told)), wanted)

    def test_a_long_play(self):
        kind = great_kind()
        dice = random.Random(13)
        told = [(dice.randrange(5), dice.randrange(2)) for _ in range(2000)]
        self.assertEqual(self.assert_short(played, kind, 7, told), play(kind, 7, told))

    def test_reachable(self):
        for kind in some_kinds(14, 150) + made_kinds():
            wanted = {play(kind, kind.first, told) for told in lists_from(kind, kind.first, min(kind.states - 1, 3))}
            for _ in range(kind.states):
                wanted |= {row[3] for row in kind.rows if row[0] in wanted}
            self.assertEqual(reachable(kind), tuple(sorted(wanted)))
        self.assertEqual(len(self.assert_short(reachable, great_kind())), 60)

    def test_states_that_are_not_reachable(self):
        kind = Kind(["a"], ["b"], 60, 57, [(state, 0, 0, min(state + 1, 59)) for state in range(60)])
        self.assertEqual(reachable(kind), (57, 58, 59))

    def test_wrong_values(self):
        states = ("state", NO_NUMBERS + (-1, 2, 10 ** 60), BadNumber("state"))
        asks = ("ask", NO_NUMBERS + (-1, 2), BadNumber("ask"))
        answers = ("answer", NO_NUMBERS + (-1, 2), BadNumber("answer"))
        kinds = ("kind", NO_OBJECTS, BadKind("kind"))
        self.assert_faults(after, {"kind": BOX, "state": 1, "ask": 1, "answer": 1}, [kinds, states, asks, answers])
        self.assert_faults(answers_to, {"kind": BOX, "state": 1, "ask": 1}, [kinds, states, asks])
        self.assert_faults(reachable, {"kind": BOX}, [kinds])
        rows = NO_ROWS + ([()], [(0,)], [(0, 0, 0)], [(2, 0)], [(0, 2)], [(-1, 0)], [(0, -1)], [(0, 0), (0, 2)], (0, 0))
        rows += tuple([(0, wrong)] for wrong in NO_NUMBERS) + tuple([(wrong, 0)] for wrong in NO_NUMBERS)
        self.assert_faults(played, {"kind": BOX, "state": 1, "operations": [(1, 1)]}, [
            kinds, states, ("operations", rows, BadNumber("operations")),
        ])

    def test_wrong_operations_behind_one_that_sticks(self):
        self.assertIsNone(played(BOX, 0, [(1, 0), (0, 0)]))
        self.assert_raises(BadNumber("operations"), played, BOX, 0, [(1, 0), (0, 2)])

    def test_what_is_passed_is_not_changed(self):
        told = [[0, 0], [1, 0]]
        played(BOX, 0, told)
        self.assertEqual(told, [[0, 0], [1, 0]])


if __name__ == "__main__":
    unittest.main()
