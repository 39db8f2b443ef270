"""Logs, what they mean, and views, held against a walk along the records."""

import random
import unittest

from ownseen.errors import BadKind, BadLog, BadNumber, BadValue
from ownseen.histories import History
from ownseen.kinds import Kind
from ownseen.logs import history_of, meant_by, view_of
from ownseen.makers import chest, counter, purse, shelf

from tests.helper import (
    NO_NUMBERS, NO_OBJECTS, NO_ROWS, SeenTest, all_works, bends, deals_of_log, events_of_log, log_stands, plain_view, play,
    some_kind, some_log, strict,
)

BOX = Kind(["put", "take"], ["ok", "short"], 2, 0, [(0, 0, 0, 1), (0, 1, 1, 0), (1, 0, 0, 1), (1, 1, 0, 0)])
WAYS = ("in place", "laid by", "watched")
NO_WAYS = (True, None, 0, "", "In place", "in  place", "inplace", "laid by ", b"watched", ["watched"], ("laid by",), 1.5, object(), {})


def some_logs(seed, many, deals=(0, 1, 2, 7, 11), length=16):
    dice = random.Random(seed)
    kinds = [BOX, shelf(2, 0), purse(3, 1), counter(2), chest(2)]
    told = []
    for number in range(many):
        kind = dice.choice(kinds) if number % 2 else some_kind(dice)
        told.append((kind, some_log(dice, kind, dice.sample(deals, dice.randint(1, len(deals))), dice.randint(0, length))))
    return told


LOGS = some_logs(181, 300)


def all_records(kind, deals):
    """All records of the deals, of the right form."""
    told = [("do", deal) + work for deal in deals for work in all_works(kind)]
    return told + [(word, deal) for word in ("ready", "yes", "no") for deal in deals]


class HistoryOfTest(SeenTest):
    def test_against_the_words(self):
        for kind, log in LOGS:
            told = history_of(kind, log)
            self.assertEqual(told, History(kind, events_of_log(log)))
            self.assertEqual(strict(told.events), strict(events_of_log(log)))
            self.assertEqual(history_of(kind=kind, log=tuple(list(record) for record in log)), told)

    def test_each_record_at_each_place(self):
        counts = [0, 0]
        for kind, log in LOGS[:60]:
            for place in range(len(log) + 1):
                for record in all_records(kind, (0, 2, 5)):
                    some = log[:place] + [record]
                    stands = log_stands(kind, some)
                    counts[stands] += 1
                    if stands:
                        self.assertEqual(history_of(kind, some).events, tuple(events_of_log(some)))
                    else:
                        self.assert_raises(BadLog("log"), history_of, kind, some)
                        self.assert_raises(BadLog("log"), history_of, kind, some + log[place:])
        self.assertGreater(min(counts), 2000)

    def test_records_of_wrong_forms(self):
        right = [("do", 0, 1, 1), ("ready", 0), ("do", 3, 0, 0), ("no", 3), ("yes", 0)]
        self.assertEqual(len(history_of(BOX, right).events), 7)
        forms = [
            None, 0, True, "do", "ready", b"do", {}, (), [], ("do",), ("do", 1), ("do", 1, 0), ("do", 1, 0, 0, 0), ("ready",),
            ("ready", 1, 0), ("yes", 0, 0), ("no",), ("no", 1, 1), ("ask", 1, 0), ("answer", 1, 0), ("Do", 1, 0, 0), (0, 1), (None, 1),
            (["do"], 1, 0, 0), ("do", 12, 0, 0), ("do", -1, 0, 0), ("do", True, 0, 0), ("do", 1, 2, 0), ("do", 1, 0, 2), ("do", 1, -1, 0),
            ("do", 1, True, 0), ("do", 1, 0, False), ("do", 1, 0, None), ("do", "1", 0, 0), ("do", [1], 0, 0), ("ready", 12),
            ("ready", -1), ("ready", None), ("ready", True), ("ready", [1]), ("no", False), ("no", 1.0), ("do", {}, 0, 0), ("done", 1),
        ]
        for form in forms:
            for place in range(len(right) + 1):
                self.assert_raises(BadLog("log"), history_of, BOX, right[:place] + [form] + right[place:])

    def test_bent_logs(self):
        for kind, log in LOGS[:40]:
            for bent in bends(log):
                try:
                    fine = isinstance(bent, list) and all(
                        isinstance(record, (list, tuple)) and type(record[0]) is str and all(type(one) is int for one in record[1:])
                        and 0 <= record[1] < 12 and len(record) == (4 if record[0] == "do" else 2)
                        and (record[0] in ("ready", "yes", "no") or record[0] == "do" and tuple(record[2:]) in all_works(kind))
                        for record in bent
                    ) and log_stands(kind, [tuple(record) for record in bent])
                except (IndexError, TypeError):
                    fine = False
                if fine:
                    self.assertEqual(history_of(kind, bent).events, tuple(events_of_log(bent)))
                else:
                    self.assert_raises(BadLog("log"), history_of, kind, bent)

    def test_just_full_and_one_record_more(self):
        dos = [("do", 0, 1, 1)] * 60
        self.assertEqual(len(history_of(BOX, dos).events), 120)
        for more in (("do", 0, 1, 1), ("do", 1, 0, 0), ("ready", 0), ("ready", 1), ("no", 3)):
            self.assert_raises(BadLog("log"), history_of, BOX, dos + [more])
            self.assert_raises(BadLog("log"), view_of, BOX, "in place", dos + [more], 5)
            self.assert_raises(BadLog("log"), meant_by, BOX, "in place", dos + [more])
        nearly = dos[:59] + [("ready", 0)]
        self.assertEqual(len(history_of(BOX, nearly + [("yes", 0)]).events), 120)
        self.assert_raises(BadLog("log"), history_of, BOX, nearly + [("do", 1, 0, 0)])
        self.assertEqual(view_of(BOX, "in place", dos, 5), 0)

    def test_errors(self):
        logs = NO_ROWS + ([("yes", 0)], [None], ["do"], [("do", 0, 0)], [("ready", 0), ("do", 0, 0, 0)], [("no", 0), ("no", 0)])
        kinds = ("kind", NO_OBJECTS + (BOX.rows,), BadKind("kind"))
        self.assert_faults(history_of, {"kind": BOX, "log": []}, [kinds, ("log", logs, BadLog("log"))])
        self.assert_faults(meant_by, {"kind": BOX, "way": "watched", "log": []}, [
            kinds, ("way", NO_WAYS, BadValue("way")), ("log", logs, BadLog("log")),
        ])
        log = [("do", 0, 0, 0), ("ready", 1), ("yes", 1), ("do", 3, 0, 0), ("no", 3), ("ready", 4), ("no", 5)]
        for way in WAYS:
            self.assert_faults(view_of, {"kind": BOX, "way": way, "log": log, "deal": 2}, [
                kinds, ("way", NO_WAYS, BadValue("way")), ("log", logs, BadLog("log")),
                ("deal", NO_NUMBERS + (-1, 12, 10 ** 60, 1, 3, 5), BadNumber("deal")),
            ])

    def test_what_is_passed_is_not_kept(self):
        log = [["do", 0, 0, 0], ["ready", 0]]
        first = history_of(BOX, log)
        log[0][3] = 1
        log.append(["yes", 0])
        self.assertEqual(first.events, (("ask", 0, 0), ("answer", 0, 0), ("ready", 0)))
        view_of(BOX, "in place", log, 3), meant_by(BOX, "laid by", log)
        self.assertEqual(log, [["do", 0, 0, 1], ["ready", 0], ["yes", 0]])


class ViewTest(SeenTest):
    def test_against_the_words(self):
        counts = {}
        for kind, log in LOGS + some_logs(182, 100, deals=(3, 4)):
            over = deals_of_log(log, "yes") + deals_of_log(log, "no")
            for way in WAYS:
                for deal in range(12):
                    if deal in over:
                        self.assert_raises(BadNumber("deal"), view_of, kind, way, log, deal)
                        continue
                    wanted = plain_view(kind, way, log, deal)
                    self.assertEqual(strict(view_of(kind, way, log, deal)), strict(wanted))
                    self.assertEqual(view_of(kind=kind, way=way, log=[list(record) for record in log], deal=deal), wanted)
                    place = (way == "in place", wanted is None, deal in deals_of_log(log, "do"))
                    counts[place] = counts.get(place, 0) + 1
        self.assertGreater(min(counts.values()), 60)
        self.assertEqual(len(counts), 8)

    def test_a_deal_that_is_ready_has_a_view(self):
        log = [("do", 1, 0, 0), ("ready", 1), ("do", 2, 1, 0), ("no", 2)]
        self.assertEqual([view_of(BOX, way, log, 1) for way in WAYS], [1, 1, 1])
        self.assertEqual([view_of(BOX, way, log, 5) for way in WAYS], [1, 0, 0])

    def test_yeses_tell_the_order(self):
        wide = shelf(3, 0)
        log = [("do", 0, 1, 0), ("do", 1, 2, 0), ("ready", 0), ("ready", 1), ("yes", 1), ("yes", 0)]
        self.assertEqual([view_of(wide, way, log, 3) for way in WAYS], [2, 1, 1])
        self.assertEqual([meant_by(wide, way, log) for way in WAYS], [2, 1, 1])
        for answer, views in ((2, [None, 1, 1]), (3, [2, None, None])):
            read = log + [("do", 2, 3, answer)]
            self.assertEqual([view_of(wide, way, read, 2) for way in WAYS], views)
            self.assertEqual([view_of(wide, way, read, 3) for way in WAYS], [views[0], 1, 1])
            self.assertEqual([meant_by(wide, way, read) for way in WAYS], [2, 1, 1])

    def test_unsure_kinds_and_another_first_state(self):
        kind = Kind(["a"], ["x", "y"], 3, 2, [(0, 0, 0, 0), (1, 0, 1, 1), (2, 0, 0, 0), (2, 0, 1, 1)])
        for answer, wanted in ((0, 0), (1, 1)):
            for way in WAYS:
                log = [("do", 4, 0, answer), ("ready", 4), ("yes", 4)]
                self.assertEqual((view_of(kind, way, log, 5), meant_by(kind, way, log)), (wanted, wanted))
                self.assertEqual((view_of(kind, way, [], 5), meant_by(kind, way, [])), (2, 2))


class MeantByTest(SeenTest):
    def test_against_the_words(self):
        counts = {}
        for kind, log in LOGS:
            yeses = deals_of_log(log, "yes")
            placed = [record[2:] for record in log if record[0] == "do" and record[1] in yeses]
            behind = [record[2:] for deal in yeses for record in log if record[:2] == ("do", deal)]
            for way in WAYS:
                wanted = play(kind, kind.first, placed if way == "in place" else behind)
                self.assertEqual(strict(meant_by(kind, way, log)), strict(wanted))
                self.assertEqual(meant_by(kind=kind, way=way, log=tuple(log)), wanted)
                place = (way == "in place", wanted is None)
                counts[place] = counts.get(place, 0) + 1
        self.assertGreater(min(counts.values()), 10)
        self.assertEqual(len(counts), 4)


if __name__ == "__main__":
    unittest.main()
