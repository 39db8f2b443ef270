"""When a table is enough, held against what each two operations need, and against logs that are run."""

import random
import unittest

from ownseen.clashes import back_table, beside_table, goes_back, goes_beside
from ownseen.errors import BadKind, BadTable, BadValue, TooMany
from ownseen.kinds import Kind
from ownseen.logs import history_of, meant_by
from ownseen.makers import bag, line, purse, shelf
from ownseen.own import keeps
from ownseen.tables import Enough, Lacks, is_enough

from tests.helper import (
    NO_OBJECTS, SeenTest, all_works, back_pairs, beside_pairs, chain, deals_of_log, events_of_log, great_kind, log_stands, made_kinds,
    pairs_on, plain_break, plain_left, plain_reachable, plain_stray, plain_table, play, some_kind, strict, two_chains,
)
from tests.test_clashes import least_jars, least_sticks, wide_kind
from tests.test_logs import NO_WAYS
from tests.test_ways import NO_TABLES

BOX = Kind(["put", "take"], ["ok", "short"], 2, 0, [(0, 0, 0, 1), (0, 1, 1, 0), (1, 0, 0, 1), (1, 1, 0, 0)])
TABLE_WAYS = ("in place", "laid by")


def kinds_made(seed, many):
    dice = random.Random(seed)
    return [some_kind(dice, states=3, asks=2, answers=2, sure=bool(number % 3 == 0)) for number in range(many)]


KINDS = kinds_made(201, 120) + [BOX, chain(4), shelf(2, 0)]


def plain_enough(kind, way, table):
    """The answer when the table is enough: all that is told for any two operations that it does not have."""
    states, turned = plain_reachable(kind), back_pairs if way == "in place" else beside_pairs
    pairs = []
    for new in all_works(kind):
        for held in all_works(kind):
            if (new, held) not in table:
                pairs += turned(kind, new, held, states)
    return Enough(states, pairs_on(kind, pairs))


def plain_lacks(kind, way, table):
    """The answer when it is not: the log, put together record by record."""
    new, held = [pair for pair in plain_table(kind, way) if pair not in table][0]
    if way == "in place":
        before, behind = least_sticks(kind, new, held)
        yeses = (1, 2)
    else:
        before, first, second, behind = least_jars(kind, new, held)
        yeses = (1, 2) if new == first else (2, 1)
    log = [("do", 0) + work for work in before] + ([("ready", 0), ("yes", 0)] if before else [])
    log += [("do", 1) + held, ("do", 2) + new, ("ready", 1), ("ready", 2)] + [("yes", deal) for deal in yeses]
    return Lacks(log + [("do", 3) + work for work in behind] + ([("ready", 3), ("yes", 3)] if behind else []))


class IsEnoughTest(SeenTest):
    def test_against_the_words(self):
        dice, counts = random.Random(202), {}
        for kind in KINDS:
            for way in TABLE_WAYS:
                least = plain_table(kind, way)
                pairs = [(new, held) for new in all_works(kind) for held in all_works(kind)]
                wide = sorted(set(least) | {pair for pair in pairs if dice.random() < 0.3})
                for table in ((), least, wide, pairs, least[:-1], least[1:], [pair for pair in wide if dice.random() < 0.8]):
                    enough = all(pair in table for pair in least)
                    told = is_enough(kind, way, table)
                    wanted = plain_enough(kind, way, table) if enough else plain_lacks(kind, way, table)
                    self.assertEqual((told, strict(told.parts)), (wanted, strict(wanted.parts)))
                    self.assertEqual(is_enough(kind=kind, way=way, table=[list(pair) for pair in table]), told)
                    place = (way, enough, not enough and len(told.log) > 8)
                    counts[place] = counts.get(place, 0) + 1
        self.assertGreater(min(counts.values()), 20)
        self.assertEqual(len(counts), 6)

    def test_of_the_pairs_both_ways_round(self):
        # Laid by a pair that goes beside counts as soon as it lacks one way round.
        look = ((2, 1), (2, 2))
        wide = shelf(2, 0)
        every = tuple((new, held) for new in all_works(wide) for held in all_works(wide))
        for gone in (look, look[::-1]):
            table = [pair for pair in every if pair != gone]
            self.assertEqual(is_enough(wide, "laid by", table), plain_enough(wide, "laid by", table))
        one = ((0, 0), (0, 0))
        self.assertEqual(is_enough(wide, "laid by", [pair for pair in every if pair != one]).pairs, ((0, 0), (1, 1)))

    def test_what_lacks_is_run_and_breaks_the_own_rule(self):
        for kind in KINDS + made_kinds()[:4]:
            for way in TABLE_WAYS:
                table = plain_table(kind, way)
                for place in range(len(table)):
                    some = table[:place] + table[place + 1:]
                    log = list(is_enough(kind, way, some).log)
                    self.assertTrue(log_stands(kind, log))
                    self.assertIsNone(plain_stray(kind, way, some, log))
                    events = events_of_log(log)
                    self.assertIsNotNone(plain_break(kind, events))
                    self.assertFalse(keeps(history_of(kind, log)))
                    # Without a behind, laid by, perhaps neither order of deals 1 and 2 can be played.
                    order = [deal for deal in (0, 1, 2, 3) if deal in deals_of_log(log, "yes")]
                    turned = [deal for deal in (0, 2, 1, 3) if deal in order]
                    stuck = [plain_left(kind, events, told) is None for told in (order, turned)]
                    if way == "in place":
                        self.assertEqual(stuck, [False, True])
                    self.assertTrue(any(stuck) and (3 not in order or not all(stuck)))
                    self.assertIs(meant_by(kind, way, log) is None, all(stuck))

    def test_over_chains_and_more_than_120_events(self):
        for states, fine in ((30, True), (57, True), (58, False), (60, False)):
            for way in TABLE_WAYS:
                kind = chain(states)
                if not fine:
                    self.assert_raises(TooMany("events", 120), is_enough, kind, way, ())
                    continue
                log = self.assert_short(is_enough, kind, way, ()).log
                self.assertEqual(log[:states - 2], (("do", 0, 0, 0),) * (states - 2))
                self.assertEqual(log[states - 2:][:4], (("ready", 0), ("yes", 0), ("do", 1, 0, 0), ("do", 2, 0, int(way == "in place"))))
                self.assertEqual(len(history_of(kind, log).events), 2 * states + 6)
            self.assertTrue(is_enough(chain(states), "in place", [((0, 1), (0, 0))]))
            self.assertTrue(is_enough(chain(states), "laid by", [((0, 0), (0, 0))]))
        for states in (2, 30):
            log = self.assert_short(is_enough, two_chains(states), "in place", ()).log
            self.assertEqual(log[0][:2], ("do", 1))
            self.assertEqual(len([record for record in log if record[:2] == ("do", 3)]), states)

    def test_new_and_held_alike(self):
        # Two takes of the last coin: the yes of deal 1 comes first, as new is the first operation of the Jars.
        wide = purse(1, 1)
        take = (2, 0)
        table = [pair for pair in beside_table(wide) if pair != (take, take)]
        self.assertEqual(is_enough(wide, "laid by", table).log, (
            ("do", 1, 2, 0), ("do", 2, 2, 0), ("ready", 1), ("ready", 2), ("yes", 1), ("yes", 2),
        ))

    def test_states_that_are_not_reachable_count_nowhere(self):
        rows = [(0, 0, 0, 0), (0, 1, 0, 0), (1, 0, 0, 1), (1, 1, 1, 1), (2, 0, 0, 1), (2, 1, 0, 0)]
        kind = Kind(["a", "b"], ["x", "y"], 3, 0, rows)
        self.assertEqual(is_enough(kind, "in place", ()), Enough([0], [(0, 0)]))
        self.assertEqual(is_enough(kind, "laid by", ()), Enough([0], [(0, 0)]))

    def test_pairs_of_all_papers_together(self):
        for kind in (BOX, line(2, 2), bag(2, 2)):
            for way, tells, table in (("in place", goes_back, back_table(kind)), ("laid by", goes_beside, beside_table(kind))):
                pairs = {pair for new in all_works(kind) for held in all_works(kind) if (new, held) not in table
                         for pair in tells(kind, new, held).pairs}
                self.assertEqual(is_enough(kind, way, table), Enough(plain_reachable(kind), tuple(sorted(pairs))))

    def test_errors(self):
        self.assert_faults(is_enough, {"kind": BOX, "way": "laid by", "table": []}, [
            ("kind", NO_OBJECTS + (BOX.rows,), BadKind("kind")), ("way", NO_WAYS + ("watched",), BadValue("way")),
            ("table", NO_TABLES, BadTable("table")),
        ])

    def test_what_is_passed_stays(self):
        table = [[[0, 0], [1, 0]]]
        first = is_enough(BOX, "in place", table)
        self.assertEqual(table, [[[0, 0], [1, 0]]])
        self.assertEqual(is_enough(BOX, "in place", table), first)

    def test_at_the_greatest_size(self):
        for kind in (great_kind(), wide_kind(), two_chains(30), purse(8, 3), bag(8, 2)):
            for way, table in (("in place", back_table(kind)), ("laid by", beside_table(kind))):
                every = tuple((new, held) for new in all_works(kind) for held in all_works(kind))
                self.assertTrue(self.assert_short(is_enough, kind, way, table))
                self.assertEqual(self.assert_short(is_enough, kind, way, every).pairs, ())
                if table:
                    told = self.assert_short(is_enough, kind, way, table[:-1])
                    self.assertIsNone(play(kind, kind.first, ()) if told else None)
                    self.assertFalse(told)


if __name__ == "__main__":
    unittest.main()
