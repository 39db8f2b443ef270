"""What states can, held against plain lists of operations and pairs taken away one by one."""

import random
import unittest

from ownseen.alike import Alike, Parts, alike_classes, can_as, reduced, way_to
from ownseen.check_alike import shows_alike
from ownseen.errors import BadKind, BadNumber
from ownseen.kinds import Kind
from ownseen.makers import bag, line, pile, purse
from ownseen.papers import Denial, Paper
from ownseen.plays import reachable

from tests.helper import (
    NO_NUMBERS, NO_OBJECTS, NO_ROWS, SeenTest, all_works, bends, can_all_pairs, great_kind, listed, lists_from,
    made_kinds, play, some_kinds, step, strict,
)

FOUR = Kind(["ask"], ["a", "b"], 4, 1, [(0, 0, 1, 0), (1, 0, 0, 2), (1, 0, 1, 3), (2, 0, 0, 2), (3, 0, 0, 3)])
KINDS = some_kinds(21, 120) + [purse(2, 1), line(2, 1), pile(2, 1), bag(2, 2)]


def pairs_behind(kind, one, other):
    """All pairs to which a list of operations leads that can be played from both, ascending."""
    pairs = {(one, other)}
    while True:
        more = {(step(kind, *pair[:1], work), step(kind, pair[1], work)) for pair in pairs for work in all_works(kind)}
        more = pairs | {pair for pair in more if None not in pair}
        if more == pairs:
            return tuple(sorted(pairs))
        pairs = more


def shortest_parting(kind, one, other):
    """The shortest list, of such the least, that can be played from one and not from other."""
    lists = [()]
    while True:
        lists = [told + (work,) for told in lists for work in all_works(kind)
                 if play(kind, one, told + (work,)) is not None]
        for told in lists:
            if play(kind, other, told) is None:
                return told
        # Of lists that lead to one pair of states the first is enough: what follows is the same.
        firsts = {}
        for told in lists:
            firsts.setdefault((play(kind, one, told), play(kind, other, told)), told)
        lists = sorted(firsts.values())


class CanAsTest(SeenTest):
    def test_against_a_plain_search(self):
        for kind in KINDS:
            can_all = can_all_pairs(kind)
            for one in range(kind.states):
                for other in range(kind.states):
                    told = can_as(kind, one, other)
                    if (one, other) in can_all:
                        self.assertEqual(told, Alike(pairs_behind(kind, one, other)))
                    else:
                        self.assertEqual(told, Parts(shortest_parting(kind, one, other)))
                    self.assertIs(shows_alike(kind, one, other, told), True)
                    self.assertEqual(can_as(kind, one, other), told)

    def test_partings_against_all_lists(self):
        for kind in some_kinds(22, 40):
            for one in range(kind.states):
                for other in range(kind.states):
                    told = can_as(kind, one, other)
                    wanted = [works for works in lists_from(kind, one, 3) if play(kind, other, works) is None]
                    if wanted:
                        self.assertEqual(told, Parts(wanted[0]))
                    elif not told:
                        self.assertGreater(len(told.operations), 3)

    def test_a_long_parting(self):
        rows = [(state, 0, 0, state + 1) for state in range(29)] + [(29, 0, 1, 29)]
        rows += [(state, 0, 0, state + 1) for state in range(30, 59)] + [(59, 0, 0, 59)]
        kind = Kind(["a"], ["b", "c"], 60, 0, rows)
        self.assertEqual(can_as(kind, 0, 30), Parts([(0, 0)] * 29 + [(0, 1)]))
        self.assertEqual(can_as(kind, 30, 0), Parts([(0, 0)] * 30))

    def test_by_name(self):
        self.assertEqual(can_as(kind=FOUR, one=2, other=3), Alike([(2, 3)]))
        self.assertIs(shows_alike(kind=FOUR, one=2, other=3, value=Alike([(2, 3)])), True)

    def test_wrong_values(self):
        numbers = NO_NUMBERS + (-1, 4, 10 ** 60)
        faults = [
            ("kind", NO_OBJECTS, BadKind("kind")),
            ("one", numbers, BadNumber("one")),
            ("other", numbers, BadNumber("other")),
        ]
        self.assert_faults(can_as, {"kind": FOUR, "one": 3, "other": 0}, faults)
        self.assert_faults(shows_alike, {"kind": FOUR, "one": 3, "other": 0, "value": None}, faults)

    def test_at_the_greatest_size(self):
        kind = great_kind()
        self.assertEqual(len(self.assert_short(can_as, kind, 0, 1).pairs), 3540)
        self.assertIs(self.assert_short(shows_alike, kind, 0, 1, can_as(kind, 0, 1)), True)


def plain_shows(kind, one, other, value):
    """Whether the value, an Alike or a Parts, is right, by the words of the document."""
    works = all_works(kind)
    rows = value.parts[0]
    numbers = [number for row in rows if isinstance(row, tuple) for number in row] if isinstance(rows, tuple) else None
    if numbers is None or any(not isinstance(row, tuple) or len(row) != 2 for row in rows):
        return False
    if any(type(number) is not int for number in numbers):
        return False
    if isinstance(value, Parts):
        if any(work not in works for work in rows):
            return False
        return play(kind, one, rows) is not None and play(kind, other, rows) is None
    if any(not 0 <= number < kind.states for number in numbers) or (one, other) not in rows:
        return False
    return all(
        step(kind, pair[0], work) is None or (step(kind, pair[0], work), step(kind, pair[1], work)) in rows
        for pair in rows for work in works
    )


class ShowsAlikeTest(SeenTest):
    def test_bent_papers(self):
        for kind in some_kinds(23, 25) + [FOUR]:
            for one in range(kind.states):
                for other in range(kind.states):
                    right = can_as(kind, one, other)
                    for bent in bends(right.parts[0]):
                        for value in (Alike(bent), Parts(bent)):
                            wanted = plain_shows(kind, one, other, value)
                            self.assertIs(shows_alike(kind, one, other, value), wanted, value.parts)

    def test_pairs_in_any_order_and_twice(self):
        for kind in KINDS[:60]:
            dice = random.Random(24)
            for one, other in can_all_pairs(kind):
                pairs = list(can_as(kind, one, other).pairs)
                more = pairs + list(can_as(kind, one, one).pairs)
                dice.shuffle(more)
                self.assertIs(shows_alike(kind, one, other, Alike(listed(more))), True)
                self.assertIs(shows_alike(kind, one, other, Alike(tuple(pairs[::-1] + pairs))), True)

    def test_more_pairs_that_are_none_of_states(self):
        for kind in KINDS[:40]:
            right = can_as(kind, 0, 0).pairs
            for wrong in ((kind.states, 0), (0, kind.states), (-1, 0), (0, -1), (10 ** 60, 0), (0, -10 ** 60)):
                for rows in (right + (wrong,), (wrong,) + right):
                    self.assertIs(shows_alike(kind, 0, 0, Alike(rows)), False)
            self.assertIs(shows_alike(kind, 0, 0, Alike(right + right)), True)

    def test_other_lists_that_part(self):
        self.assertIs(shows_alike(FOUR, 1, 2, Parts([(0, 1)])), True)
        self.assertIs(shows_alike(FOUR, 1, 2, Parts([[0, 1], [0, 0], [0, 0]])), True)
        self.assertIs(shows_alike(FOUR, 1, 2, Parts([(0, 0), (0, 1)])), False)
        self.assertIs(shows_alike(FOUR, 1, 2, Parts([])), False)

    def test_any_value(self):
        for value in NO_OBJECTS + NO_ROWS + (Paper("alike", [(2, 3)]), Denial("alike", [(2, 3)]), [(2, 3)], Alike):
            self.assertIs(shows_alike(FOUR, 2, 3, value), False)
        for part in NO_ROWS + NO_OBJECTS + ([None], [7], ["ab"], [{}], [[(2, 3)]], [(2, 3), None]):
            self.assertIs(shows_alike(FOUR, 2, 3, Alike(part)), False)
            self.assertIs(shows_alike(FOUR, 1, 2, Parts(part)), False)

    def test_true_is_no_number(self):
        self.assertIs(shows_alike(FOUR, 1, 1, can_as(FOUR, 1, 1)), True)
        bent = [[True if state == 1 else state for state in pair] for pair in can_as(FOUR, 1, 1).pairs]
        self.assertEqual(Alike(bent), can_as(FOUR, 1, 1))
        self.assertIs(shows_alike(FOUR, 1, 1, Alike(bent)), False)
        self.assertIs(shows_alike(FOUR, 1, 2, Parts([(False, True)])), False)


class ClassesTest(SeenTest):
    def test_alike_classes(self):
        for kind in KINDS:
            can_all, states = can_all_pairs(kind), reachable(kind)
            wanted = {tuple(other for other in states if {(one, other), (other, one)} <= can_all) for one in states}
            self.assertEqual(strict(alike_classes(kind)), strict(tuple(sorted(wanted))))
            self.assertIs(type(alike_classes(kind)[0]), tuple)

    def test_way_to(self):
        for kind in KINDS:
            lists = lists_from(kind, kind.first, kind.states - 1 if kind.states < 5 else 3)
            for state in range(kind.states):
                told = way_to(kind, state)
                wanted = [works for works in lists if play(kind, kind.first, works) == state]
                if wanted:
                    self.assertEqual(told, wanted[0])
                elif kind.states < 5:
                    self.assertIsNone(told)
                if told is None:
                    self.assertNotIn(state, reachable(kind))

    def test_reduced(self):
        for kind in KINDS:
            told, lots = reduced(kind), alike_classes(kind)
            ways = {lot: min((len(way_to(kind, state)), way_to(kind, state)) for state in lot) for lot in lots}
            lots = sorted(lots, key=lambda lot: ways[lot])
            self.assertEqual((told.asks, told.answers, told.states, told.first), (kind.asks, kind.answers, len(lots), 0))
            self.assertIn(kind.first, lots[0])
            number = {state: at for at, lot in enumerate(lots) for state in lot}
            rows = {(number[row[0]], row[1], row[2], number[row[3]]) for row in kind.rows if row[0] in number}
            self.assertEqual(told.rows, tuple(sorted(rows)))
            self.assertEqual(lists_from(told, 0, 3), lists_from(kind, kind.first, 3))

    def test_reduced_again_and_of_states_renamed(self):
        dice = random.Random(25)
        for kind in KINDS:
            names = list(range(kind.states))
            dice.shuffle(names)
            rows = sorted((names[row[0]], row[1], row[2], names[row[3]]) for row in kind.rows)
            other = Kind(kind.asks, kind.answers, kind.states, names[kind.first], rows)
            self.assertEqual(reduced(other), reduced(kind))
            self.assertEqual(reduced(reduced(kind)), reduced(kind))

    def test_reduced_of_a_kind_put_in_twice(self):
        for kind in made_kinds():
            if kind.states <= 30:
                rows = [(row[0], row[1], row[2], row[3] + kind.states) for row in kind.rows]
                rows += [(row[0] + kind.states, row[1], row[2], row[3]) for row in kind.rows]
                twice = Kind(kind.asks, kind.answers, kind.states * 2, kind.first, rows)
                self.assertEqual(reduced(twice), reduced(kind))
                self.assertEqual(len(alike_classes(twice)), kind.states)

    def test_by_name(self):
        self.assertEqual(alike_classes(kind=FOUR), ((1,), (2, 3)))
        self.assertEqual(way_to(kind=FOUR, state=3), ((0, 1),))
        self.assertEqual(reduced(kind=FOUR).states, 2)

    def test_wrong_values(self):
        kinds = ("kind", NO_OBJECTS, BadKind("kind"))
        self.assert_faults(alike_classes, {"kind": FOUR}, [kinds])
        self.assert_faults(reduced, {"kind": FOUR}, [kinds])
        states = ("state", NO_NUMBERS + (-1, 4, 10 ** 60), BadNumber("state"))
        self.assert_faults(way_to, {"kind": FOUR, "state": 0}, [kinds, states])

    def test_at_the_greatest_size(self):
        kind = great_kind()
        self.assertEqual(self.assert_short(alike_classes, kind), (tuple(range(60)),))
        self.assertEqual(self.assert_short(reduced, kind).states, 1)
        rows = [(state, 0, 0, state + 1) for state in range(59)] + [(59, 0, 1, 59)]
        long = Kind(["a"], ["b", "c"], 60, 0, rows)
        self.assertEqual(len(self.assert_short(alike_classes, long)), 60)
        self.assertEqual(self.assert_short(reduced, long), long)
        self.assertEqual(self.assert_short(way_to, long, 59), ((0, 0),) * 59)


if __name__ == "__main__":
    unittest.main()
