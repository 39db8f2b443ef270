"""What goes back and beside, held against a plain search over all lists of operations."""

import random
import unittest

from ownseen.clashes import Goes, Jars, Sticks, back_table, beside_table, goes_back, goes_beside
from ownseen.errors import BadKind, BadNumber
from ownseen.kinds import Kind, is_sure
from ownseen.makers import bag, counter, line, purse, shelf

from tests.helper import (
    NO_NUMBERS, NO_OBJECTS, SeenTest, all_works, back_pairs, beside_pairs, can_all_pairs, chain, great_kind, made_kinds,
    pairs_on, plain_clash, plain_reachable, plain_table, play, some_kind, some_kinds, step, strict, two_chains,
)

BOX = Kind(["put", "take"], ["ok", "short"], 2, 0, [(0, 0, 0, 1), (0, 1, 1, 0), (1, 0, 0, 1), (1, 1, 0, 0)])


def small_kinds(seed, many):
    dice = random.Random(seed)
    return [some_kind(dice, states=3, asks=2, answers=2, sure=bool(number % 3 == 0)) for number in range(many)]


KINDS = small_kinds(171, 150)


def lists_of(kind, state, length):
    """All lists of so many operations that can be played from the state, ascending."""
    lists = [()]
    for _ in range(length):
        lists = [told + (work,) for told in lists for work in all_works(kind) if play(kind, state, told + (work,)) is not None]
    return lists


def least_sticks(kind, new, held):
    """The (before, behind) that the words ask for, by looking at all lists, those with fewer operations first."""
    total = 0
    while True:
        found = []
        for many in range(total + 1):
            for before in lists_of(kind, kind.first, many):
                state = play(kind, kind.first, before + (held, new))
                if state is not None:
                    for behind in lists_of(kind, state, total - many):
                        if play(kind, kind.first, before + (new, held) + behind) is None:
                            found.append((before, behind))
        if found:
            return min(found)
        total += 1


def least_jars(kind, one, other):
    """The (before, first, second, behind) that the words ask for, likewise."""
    total = 0
    while True:
        found = []
        for many in range(total + 1):
            for before in lists_of(kind, kind.first, many):
                state = play(kind, kind.first, before)
                if step(kind, state, one) is None or step(kind, state, other) is None:
                    continue
                for first, second in ((one, other), (other, one)):
                    turned = play(kind, state, (second, first))
                    rows = [()] if total == many else [] if turned is None else lists_of(kind, turned, total - many)
                    found += [(before, first, second, behind) for behind in rows
                              if play(kind, state, (first, second) + behind) is None]
        if found:
            return min(found)
        total += 1


class GoesBackTest(SeenTest):
    def test_against_all_lists(self):
        counts = {}
        for kind in KINDS + [BOX, chain(4), shelf(2, 0), counter(1)]:
            can_all, states = can_all_pairs(kind), plain_reachable(kind)
            for new in all_works(kind):
                for held in all_works(kind):
                    told = goes_back(kind, new, held)
                    if plain_clash(kind, "in place", new, held, can_all):
                        wanted = Sticks(*least_sticks(kind, new, held))
                    else:
                        wanted = Goes(states, pairs_on(kind, back_pairs(kind, new, held, states)))
                    self.assertEqual((told, strict(told.parts)), (wanted, strict(wanted.parts)))
                    self.assertEqual(goes_back(kind=kind, new=list(new), held=list(held)), told)
                    place = (bool(told), not told and bool(told.before), not told and bool(told.behind))
                    counts[place] = counts.get(place, 0) + 1
        for place in ((True, False, False), (False, False, False), (False, True, False), (False, False, True), (False, True, True)):
            self.assertGreater(counts.get(place, 0), 5, (place, counts))

    def test_states_that_are_not_reachable(self):
        # From state 2 the two cannot be turned round, but nothing leads there.
        rows = [(0, 0, 0, 0), (0, 1, 0, 0), (1, 0, 0, 1), (1, 1, 1, 1), (2, 0, 0, 1), (2, 1, 0, 0)]
        kind = Kind(["a", "b"], ["x", "y"], 3, 0, rows)
        self.assertEqual(goes_back(kind, (1, 1), (0, 0)), Goes([0], []))
        self.assertEqual(goes_back(Kind(kind.asks, kind.answers, 3, 2, rows), (1, 1), (0, 0)), Sticks([], []))
        self.assertEqual(back_table(kind), ())

    def test_operations_that_are_possible_nowhere(self):
        for kind in (BOX, bag(2, 2)):
            states = plain_reachable(kind)
            nowhere = [work for work in all_works(kind) if all(step(kind, state, work) is None for state in states)]
            self.assertTrue(nowhere)
            for work in nowhere:
                self.assertEqual(goes_back(kind, work, (0, 0)), Goes(states, []))
                self.assertEqual(goes_beside(kind, (0, 0), work), Goes(states, []))

    def test_over_long_chains(self):
        for states in (2, 3, 31, 60):
            kind = chain(states)
            told = self.assert_short(goes_back, kind, (0, 1), (0, 0))
            self.assertEqual(told, Sticks([(0, 0)] * (states - 2), []))
            self.assertEqual(goes_back(kind, (0, 0), (0, 0)), Goes(list(range(states)), [(k, k) for k in range(2, states)]))
            self.assertEqual(goes_back(kind, (0, 0), (0, 1)), Goes(list(range(states)), []))
        for states in (2, 3, 30):
            kind = two_chains(states)
            told = self.assert_short(goes_back, kind, (0, 0), (1, 0))
            self.assertEqual(told, Sticks([], [(2, 0)] * (states - 1) + [(2, 1)]))
            self.assertEqual(goes_back(kind, (1, 0), (0, 0)), Sticks([], [(2, 0)] * (states - 1) + [(2, 2)]))

    def test_the_fewest_operations_together(self):
        # From the first state a and b show only behind two operations; a state further on, behind c, they show at once.
        rows = [(0, 0, 0, 1), (0, 1, 0, 2), (0, 2, 0, 3), (1, 0, 0, 1), (1, 1, 0, 1), (1, 2, 0, 4), (2, 0, 0, 2), (2, 1, 0, 2), (2, 2, 0, 5)]
        rows += [(3, 0, 0, 3), (3, 1, 0, 6), (3, 2, 0, 3), (4, 0, 0, 4), (4, 1, 0, 4), (4, 2, 0, 4)]
        rows += [(5, 0, 0, 5), (5, 1, 0, 5), (5, 2, 1, 5), (6, 0, 1, 6), (6, 1, 0, 6), (6, 2, 0, 6)]
        kind = Kind(["a", "b", "c"], ["x", "y"], 7, 0, sorted(rows))
        self.assertEqual(goes_back(kind, (0, 0), (1, 0)), Sticks([], [(2, 0), (2, 1)]))
        self.assertEqual(goes_back(kind, (1, 0), (0, 0)), Sticks(*least_sticks(kind, (1, 0), (0, 0))))
        self.assertEqual(goes_back(kind, (1, 0), (0, 0)), Sticks([(2, 0)], []))
        self.assertEqual(goes_beside(kind, (0, 0), (1, 0)), Jars([(2, 0)], (1, 0), (0, 0), []))

    def test_errors(self):
        bad = NO_OBJECTS + (purse(2, 1).rows,)
        works = NO_NUMBERS + ((2, 0), (0, 2), (-1, 0), (0, -1), (0, 0, 0), (0,), (True, 0), (0, False), (0, None), ("0", 0), [[0], 0], "ab")
        for function, names in ((goes_back, ("new", "held")), (goes_beside, ("one", "other"))):
            self.assert_faults(function, {"kind": BOX, names[0]: (0, 0), names[1]: [1, 1]}, [
                ("kind", bad, BadKind("kind")), (names[0], works, BadNumber(names[0])), (names[1], works, BadNumber(names[1])),
            ])
        for function in (back_table, beside_table):
            self.assert_faults(function, {"kind": BOX}, [("kind", bad, BadKind("kind"))])

    def test_a_gap_of_hundreds_of_operations(self):
        # Behind held, new a wheel of 29 goes round, behind new, held one of 28: a mark is possible at the one's
        # place 0, and at all places of the other one but 0; so it shows when both come to 0 together.
        rows = [(0, 0, 0, 1), (0, 1, 0, 2), (0, 2, 0, 0), (1, 0, 0, 1), (1, 1, 0, 4), (1, 2, 0, 1), (2, 0, 0, 33), (2, 1, 0, 2), (2, 2, 0, 2)]
        for low, many in ((3, 29), (32, 28)):
            for place in range(many):
                state = low + place
                rows += [(state, 0, 0, state), (state, 1, 0, state), (state, 2, 0, low + (place + 1) % many)]
                if (place == 0) == (many == 29):
                    rows.append((state, 2, 1, state))
        kind = Kind(["x", "y", "tick"], ["ok", "mark"], 60, 0, sorted(rows))
        ticks = next(t for t in range(1, 29 * 28) if (t + 1) % 29 == 0 and (t + 1) % 28 == 0)
        self.assertEqual(self.assert_short(goes_back, kind, (1, 0), (0, 0)), Sticks([], [(2, 0)] * ticks + [(2, 1)]))
        self.assertEqual(self.assert_short(goes_beside, kind, (1, 0), (0, 0)).parts[:3], ((), (0, 0), (1, 0)))
        self.assertEqual(ticks, 811)


class GoesBesideTest(SeenTest):
    def test_against_all_lists(self):
        counts = {}
        for kind in KINDS + [BOX, chain(4), shelf(2, 0), counter(1)]:
            can_all, states = can_all_pairs(kind), plain_reachable(kind)
            for one in all_works(kind):
                for other in all_works(kind):
                    told = goes_beside(kind, one, other)
                    if plain_clash(kind, "laid by", one, other, can_all):
                        wanted = Jars(*least_jars(kind, one, other))
                    else:
                        wanted = Goes(states, pairs_on(kind, beside_pairs(kind, one, other, states)))
                    self.assertEqual((told, strict(told.parts)), (wanted, strict(wanted.parts)))
                    self.assertEqual(goes_beside(kind=kind, one=list(one), other=list(other)), told)
                    self.assertEqual(goes_beside(kind, other, one), told)
                    place = (bool(told), one == other, not told and (bool(told.before), bool(told.behind)))
                    counts[place] = counts.get(place, 0) + 1
        for place in ((True, False, False), (True, True, False), (False, False, (False, False)), (False, False, (True, False)),
                      (False, False, (False, True)), (False, True, (False, False)), (False, False, (True, True))):
            self.assertGreater(counts.get(place, 0), 2, (place, counts))

    def test_over_long_chains(self):
        for states in (3, 31, 60):
            kind = chain(states)
            told = self.assert_short(goes_beside, kind, (0, 0), (0, 0))
            self.assertEqual(told, Jars([(0, 0)] * (states - 2), (0, 0), (0, 0), []))
            self.assertEqual(goes_beside(kind, (0, 1), (0, 0)), Goes(list(range(states)), []))
            self.assertEqual(goes_beside(kind, (0, 1), (0, 1)), Goes(list(range(states)), [(states - 1, states - 1)]))
        for states in (2, 30):
            told = self.assert_short(goes_beside, two_chains(states), (1, 0), (0, 0))
            self.assertEqual(told, Jars([], (0, 0), (1, 0), [(2, 0)] * (states - 1) + [(2, 1)]))

    def test_a_take_that_is_refused_and_the_last_coin(self):
        # As the facts tell: the two tables are unlike.
        wide = purse(1, 1)
        take, short = (2, 0), (2, 2)
        self.assertFalse(goes_back(wide, short, take))
        self.assertTrue(goes_beside(wide, short, take))
        self.assertTrue(goes_back(wide, take, take))
        self.assertFalse(goes_beside(wide, take, take))


class TablesOfClashesTest(SeenTest):
    def test_against_the_words(self):
        for kind in some_kinds(172, 80) + KINDS[:60] + made_kinds() + [BOX, chain(9), two_chains(5)]:
            self.assertEqual(strict(back_table(kind)), strict(plain_table(kind, "in place")))
            self.assertEqual(strict(beside_table(kind)), strict(plain_table(kind, "laid by")))
            self.assertEqual(back_table(kind=kind), back_table(kind))
            self.assertEqual(beside_table(kind=kind), beside_table(kind))

    def test_unsure_kinds_are_among_them(self):
        self.assertGreater(min(sum(is_sure(kind) is wanted for kind in KINDS) for wanted in (True, False)), 20)

    def test_the_kind_stays_as_it_is(self):
        kind = line(2, 2)
        before = {name: repr(value) for name, value in vars(kind).items()}
        new = [0, 0]
        goes_back(kind, new, new), goes_beside(kind, new, new), back_table(kind), beside_table(kind)
        self.assertEqual(({name: repr(value) for name, value in vars(kind).items()}, new), (before, [0, 0]))

    def test_at_the_greatest_size(self):
        wide = wide_kind()
        for kind in (great_kind(), wide, chain(60), two_chains(30), line(5, 1), bag(8, 2), purse(8, 3)):
            self.assertTrue(all(isinstance(row, tuple) for row in self.assert_short(back_table, kind) + self.assert_short(beside_table, kind)))
            works = all_works(kind)
            for new, held in ((works[0], works[-1]), (works[0], works[0]), (works[-1], works[0])):
                self.assert_short(goes_back, kind, new, held)
                self.assert_short(goes_beside, kind, new, held)


def wide_kind():
    """Six states, from each of which all of 96 operations are possible; what they lead to is mixed."""
    dice = random.Random(173)
    rows = [(state, ask, answer, dice.randrange(6)) for state in range(6) for ask in range(8) for answer in range(12)]
    return Kind([f"a{k}" for k in range(8)], [f"b{k}" for k in range(12)], 6, 0, rows)


if __name__ == "__main__":
    unittest.main()
