"""Which answers may be given, and which readies may be told, held against the words, record by record."""

import random
import unittest

from ownseen.clashes import back_table, beside_table
from ownseen.errors import BadKind, BadLog, BadNumber, BadTable, BadValue
from ownseen.kinds import Kind
from ownseen.logs import history_of
from ownseen.makers import chest, counter, purse, shelf
from ownseen.own import keeps
from ownseen.ways import answer_for, first_stray, may_answer, may_ready

from tests.helper import (
    NO_NUMBERS, NO_OBJECTS, NO_ROWS, SeenTest, all_works, chain, deals_of_log, great_kind, plain_may_answer, plain_may_ready,
    plain_stray, plain_table, some_kind, some_log,
)
from tests.test_logs import NO_WAYS, WAYS

BOX = Kind(["put", "take"], ["ok", "short"], 2, 0, [(0, 0, 0, 1), (0, 1, 1, 0), (1, 0, 0, 1), (1, 1, 0, 0)])
KINDS = [BOX, shelf(2, 0), purse(2, 1), counter(2), chest(2)]

PAIR = ((0, 0), (1, 0))
NO_TABLES = NO_ROWS + (
    [None], [0], [()], [[]], [(0, 0)], [PAIR + ((0, 0),)], [PAIR, PAIR], [((1, 0), (0, 0)), PAIR], [((0, 0), (2, 0))], [((0, 2), (0, 0))],
    [((-1, 0), (0, 0))], [((0, 0), (0, True))], [((0, None), (0, 0))], [((0, 0, 0), (0, 0))], [((0,), (0, 0))], [({}, (0, 0))],
    PAIR, [(None, (0, 0))], [((0, 0), (1, "0"))], {PAIR: True},
)


def some_tables(dice, kind):
    """Tables: none, those that are enough, and ones between."""
    back, beside = plain_table(kind, "in place"), plain_table(kind, "laid by")
    pairs = [(new, held) for new in all_works(kind) for held in all_works(kind)]
    return [(), back, beside, [pair for pair in pairs if dice.random() < 0.2], [pair for pair in back if dice.random() < 0.7]]


def some_runs(seed, many, deals=(0, 1, 2, 7, 11), length=12):
    """Rows (kind, way, table, log): some logs are run, others not."""
    dice, told = random.Random(seed), []
    for number in range(many):
        kind = dice.choice(KINDS) if number % 2 else some_kind(dice, states=3, asks=2, answers=2)
        way, table = dice.choice(WAYS), dice.choice(some_tables(dice, kind))
        some = dice.sample(deals, dice.randint(1, len(deals)))
        told.append((kind, way, table, some_log(dice, kind, some, dice.randint(0, length), way, table, dice.choice((0, 0, 0.3, 1)))))
    return told


RUNS = some_runs(191, 400)


def free_for_asks(log, deal):
    return deal not in [record[1] for record in log if record[0] != "do"]


class MayAnswerTest(SeenTest):
    def test_against_the_words(self):
        counts = {}
        for kind, way, table, log in RUNS:
            held = [record for record in log if record[0] == "do" and record[1] not in deals_of_log(log, "yes") + deals_of_log(log, "no")]
            for deal in (0, 1, 2, 3, 11):
                if not free_for_asks(log, deal):
                    self.assert_raises(BadNumber("deal"), may_answer, kind, way, table, log, deal, 0, 0)
                    self.assert_raises(BadNumber("deal"), answer_for, kind, way, table, log, deal, 0)
                    continue
                for ask in range(len(kind.asks)):
                    fine = [answer for answer in range(len(kind.answers))
                            if plain_may_answer(kind, way, table, log, deal, (ask, answer))]
                    told = [answer for answer in range(len(kind.answers)) if may_answer(kind, way, table, log, deal, ask, answer)]
                    self.assertEqual(told, fine)
                    self.assertEqual(answer_for(kind, way, table, log, deal, ask), fine[0] if fine else None)
                    place = (way, bool(fine), len(fine) > 1, bool(held) and bool(table))
                    counts[place] = counts.get(place, 0) + 1
        for way in WAYS:
            for place in ((way, True, False, True), (way, False, False, True), (way, True, False, False), (way, True, True, True)):
                self.assertGreater(counts.get(place, 0), 3, (place, counts))

    def test_by_name_and_with_lists(self):
        named = {"kind": BOX, "way": "in place", "table": [[[0, 0], [1, 0]]], "log": [["do", 1, 1, 1]], "deal": 2, "ask": 0}
        self.assertIs(may_answer(**named, answer=0), True)
        self.assertEqual(answer_for(**named), 0)
        self.assertIs(may_ready(BOX, way="watched", log=[["do", 1, 1, 1]], deal=1), True)
        self.assertIsNone(first_stray(kind=BOX, way="laid by", table=named["table"], log=named["log"]))

    def test_who_holds_what(self):
        table = [((0, 0), (1, 1))]
        for log, wanted in (
            ([("do", 1, 1, 1)], False), ([("do", 1, 1, 1), ("ready", 1)], False), ([("do", 1, 1, 1), ("ready", 1), ("yes", 1)], True),
            ([("do", 1, 1, 1), ("no", 1)], True), ([("do", 2, 1, 1)], True), ([], True), ([("do", 1, 1, 1), ("ready", 1), ("no", 1)], True),
        ):
            for way in WAYS:
                self.assertIs(may_answer(BOX, way, table, log, 2, 0, 0), wanted or way == "watched")
                self.assertIs(may_answer(BOX, way, [table[0][::-1]], log, 2, 0, 0), True)

    def test_without_a_view(self):
        log = [("do", 1, 0, 0), ("do", 1, 0, 0), ("do", 1, 1, 1)]
        for way in ("in place", "laid by", "watched"):
            for deal, wanted in ((1, None), (2, None if way == "in place" else 0)):
                self.assertEqual(answer_for(BOX, way, (), log, deal, 0), wanted)
                self.assertIs(may_answer(BOX, way, (), log, deal, 0, 0), wanted == 0)

    def test_a_log_that_is_full(self):
        log = [("do", 0, 1, 1)] * 60
        self.assertIs(may_answer(BOX, "in place", (), log, 3, 0, 0), True)
        self.assertEqual(answer_for(BOX, "watched", (), log, 0, 1), 1)
        self.assertIs(may_ready(BOX, "laid by", log, 0), True)
        self.assertIs(may_ready(BOX, "watched", log, 0), True)
        for more in (("do", 0, 1, 1), ("ready", 0)):
            self.assert_raises(BadLog("log"), may_answer, BOX, "in place", (), log + [more], 3, 0, 0)
            self.assert_raises(BadLog("log"), first_stray, BOX, "in place", (), log + [more])

    def test_errors(self):
        log = [("do", 0, 0, 0), ("ready", 1), ("yes", 1), ("do", 3, 0, 0), ("no", 3), ("ready", 4), ("no", 5)]
        logs = NO_ROWS + ([("yes", 0)], [None], ["do"], [("do", 0, 0)])
        faults = [
            ("kind", NO_OBJECTS + (BOX.rows,), BadKind("kind")), ("way", NO_WAYS, BadValue("way")), ("table", NO_TABLES, BadTable("table")),
            ("log", logs, BadLog("log")), ("deal", NO_NUMBERS + (-1, 12, 10 ** 60, 1, 3, 4, 5), BadNumber("deal")),
            ("ask", NO_NUMBERS[1:] + (True, 2, -1), BadNumber("ask")), ("answer", NO_NUMBERS + (2, -1), BadNumber("answer")),
        ]
        for way in WAYS:
            right = {"kind": BOX, "way": way, "table": [PAIR], "log": log, "deal": 2, "ask": 0, "answer": 0}
            self.assert_faults(may_answer, right, faults)
            del right["answer"]
            self.assert_faults(answer_for, right, faults[:-1])
            self.assert_faults(first_stray, {"kind": BOX, "way": way, "table": [PAIR], "log": log}, faults[:4])
            ready = {"kind": BOX, "way": way, "log": log, "deal": 0}
            self.assert_faults(may_ready, ready, faults[:2] + [
                faults[3], ("deal", NO_NUMBERS + (-1, 12, 10 ** 60, 1, 2, 3, 4, 5, 11), BadNumber("deal")),
            ])

    def test_tables_of_more_than_may_be_possible(self):
        # Operations that are possible nowhere may stand in a table, too.
        self.assertIs(may_answer(BOX, "in place", [((0, 1), (0, 1))], [], 0, 0, 0), True)
        every = [(new, held) for new in all_works(BOX) for held in all_works(BOX)]
        self.assertIsNone(answer_for(BOX, "laid by", every, [("do", 1, 1, 1)], 0, 0))

    def test_what_is_passed_stays(self):
        table, log = [[[0, 0], [1, 1]]], [["do", 1, 1, 1]]
        first = (answer_for(BOX, "in place", table, log, 2, 0), first_stray(BOX, "in place", table, log), may_ready(BOX, "watched", log, 1))
        self.assertEqual((table, log), ([[[0, 0], [1, 1]]], [["do", 1, 1, 1]]))
        again = (answer_for(BOX, "in place", table, log, 2, 0), first_stray(BOX, "in place", table, log), may_ready(BOX, "watched", log, 1))
        self.assertEqual(first, again)


class MayReadyTest(SeenTest):
    def test_against_the_words(self):
        counts = {}
        for kind, _, _, log in RUNS:
            done = deals_of_log(log, "do")
            for deal in range(12):
                for way in WAYS:
                    if deal not in done or not free_for_asks(log, deal):
                        self.assert_raises(BadNumber("deal"), may_ready, kind, way, log, deal)
                        continue
                    wanted = plain_may_ready(kind, way, log, deal)
                    self.assertIs(may_ready(kind, way, log, deal), wanted)
                    counts[way, wanted] = counts.get((way, wanted), 0) + 1
        self.assertGreater(min(counts.values()), 30)
        self.assertEqual(sorted(counts), [("in place", True), ("laid by", True), ("watched", False), ("watched", True)])

    def test_eight_deals(self):
        for many in (6, 7):
            log = [("ready", deal) for deal in range(many)] + [("yes", 2), ("no", 11), ("do", 9, 0, 0)]
            for way in WAYS:
                self.assertIs(may_ready(BOX, way, log, 9), way != "watched" or many == 6)


class FirstStrayTest(SeenTest):
    def test_against_the_words(self):
        counts = {}
        for kind, way, table, log in RUNS + some_runs(192, 150, length=20):
            wanted = plain_stray(kind, way, table, log)
            self.assertEqual(first_stray(kind, way, table, log), wanted)
            self.assertEqual(first_stray(kind, way, [list(map(list, pair)) for pair in table], tuple(map(list, log))), wanted)
            place = (way, wanted is None, wanted is not None and log[wanted][0])
            counts[place] = counts.get(place, 0) + 1
        for way in WAYS:
            self.assertGreater(counts.get((way, True, False), 0), 20)
            self.assertGreater(counts.get((way, False, "do"), 0), 5)
        self.assertGreater(counts.get(("watched", False, "ready"), 0), 5)

    def test_deals_that_did_nothing(self):
        log = [("ready", 3), ("yes", 3), ("ready", 4), ("no", 4), ("no", 5)]
        self.assertEqual([first_stray(BOX, way, (), log) for way in WAYS], [None, None, 0])
        self.assertEqual([first_stray(BOX, way, (), [("no", 5)]) for way in WAYS], [None, None, None])
        self.assertEqual([first_stray(BOX, way, (), []) for way in WAYS], [None, None, None])

    def test_eight_deals(self):
        for many in (7, 8):
            log = [record for deal in range(many) for record in (("do", deal, 0, 0), ("ready", deal))]
            for way in WAYS:
                self.assertEqual(first_stray(BOX, way, (), log), 15 if way == "watched" and many == 8 else None)

    def test_what_is_run_keeps_the_own_rule(self):
        dice, counts = random.Random(193), {}
        for number in range(300):
            kind = dice.choice(KINDS) if number % 2 else some_kind(dice, states=3, asks=2, answers=2)
            way = dice.choice(WAYS)
            table = {"in place": back_table(kind), "laid by": beside_table(kind), "watched": ()}[way]
            log = some_log(dice, kind, (0, 1, 2, 3), 14, way, table, 0)
            self.assertIsNone(first_stray(kind, way, table, log))
            self.assertTrue(keeps(history_of(kind, log)))
            place = (way, len(deals_of_log(log, "yes")) > 1)
            counts[place] = counts.get(place, 0) + 1
        self.assertGreater(min(counts.values()), 8)

    def test_at_the_greatest_size(self):
        dice, kind = random.Random(194), great_kind()
        every = tuple((new, held) for new in all_works(kind)[1:] for held in all_works(kind)[1:])
        log = []
        while len(log) < 50:
            deal = len(log) % 7
            log.append(("do", deal, dice.randrange(5), dice.randrange(2)))
        log += [("ready", deal) for deal in range(7)] + [("yes", deal) for deal in range(7)]
        for way in WAYS:
            self.assert_short(first_stray, kind, way, (), log)
            self.assert_short(first_stray, kind, way, every, log)
        self.assertIsNone(first_stray(kind, "in place", (), log))
        turning = Kind(["up", "down"], ["ok"], 60, 0, sorted(
            [(state, 0, 0, (state + 1) % 60) for state in range(60)] + [(state, 1, 0, (state + 59) % 60) for state in range(60)]
        ))
        rounds = [("do", place % 7, dice.randrange(2), 0) for place in range(53)] + [("ready", deal) for deal in range(7)] + [("yes", 0)] * 1
        self.assertEqual(len(history_of(turning, rounds).events), 114)
        self.assertIsNone(self.assert_short(first_stray, turning, "watched", (), rounds))
        self.assertIsNone(self.assert_short(first_stray, chain(60), "in place", (), [("do", 0, 0, 0)] * 59 + [("ready", 0), ("yes", 0)]))


if __name__ == "__main__":
    unittest.main()
