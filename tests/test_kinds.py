"""Kinds: what they take and keep, their texts, and what is asked of them."""

import random
import unittest

from ownseen.errors import BadKind, BadText, SeenError
from ownseen.kinds import Kind, is_sure, operations_of

from tests.helper import (
    NO_NUMBERS, NO_OBJECTS, NO_ROWS, SeenTest, great_kind, listed, made_kinds, some_kind, some_kinds,
)

BOX = (["put", "take"], ["ok", "short"], 2, 0, [(0, 0, 0, 1), (0, 1, 1, 0), (1, 0, 0, 1), (1, 1, 0, 0)])
NAMES = ("asks", "answers", "states", "first", "rows")
RIGHT = dict(zip(NAMES, BOX))
NO_WORDS = ("", "A", "a b", "a" * 13, "/", "\u00e9", 7, None, True, ["a"], b"a")


def of_words(asks, answers):
    """A kind with so many asks and answers, of one state."""
    rows = [(0, ask, 0, 0) for ask in range(asks)]
    return [f"a{k}" for k in range(asks)], [f"b{k}" for k in range(answers)], 1, 0, rows


def of_states(states):
    return ["a"], ["b"], states, 0, [(state, 0, 0, 0) for state in range(states)]


def crowd_rows(many):
    """Rows of 60 states and 5 asks with two answers each, 600 in all; more with a third answer."""
    rows = [(state, ask, answer, state) for state in range(60) for ask in range(5) for answer in range(2)]
    return sorted(rows + [(extra, 0, 2, 0) for extra in range(many - 600)])


def crowd(many):
    return ["a", "b", "c", "d", "e"], ["x", "y", "z"], 60, 59, crowd_rows(many)


class KindsTest(SeenTest):
    def test_attributes_are_tuples(self):
        for given in (BOX, listed(BOX), tuple(tuple(one) if isinstance(one, list) else one for one in BOX)):
            kind = Kind(*given)
            self.assertEqual((kind.asks, kind.answers, kind.states, kind.first), (("put", "take"), ("ok", "short"), 2, 0))
            self.assertEqual(kind.rows, tuple(BOX[4]))
            for value in (kind.asks, kind.answers, kind.rows, kind.rows[0]):
                self.assertIs(type(value), tuple)

    def test_what_is_passed_is_neither_kept_nor_changed(self):
        given = listed(BOX)
        kind, text = Kind(*given), str(Kind(*given))
        self.assertEqual(given, listed(BOX))
        given[0].append("more"), given[1].clear(), given[4][0].append(9), given[4].pop()
        self.assertEqual(str(kind), text)
        self.assertEqual(kind, Kind(*BOX))

    def test_wrong_values_for_each_argument(self):
        self.assert_faults(Kind, RIGHT, [
            ("asks", NO_ROWS + ([], ["put", "put"], [["put"], "take"]), BadKind("asks")),
            ("asks", [["put", word] for word in NO_WORDS], BadKind("asks")),
            ("answers", NO_ROWS + ([], ["ok", "ok"], ["ok", None]), BadKind("answers")),
            ("answers", [[word, "short"] for word in NO_WORDS], BadKind("answers")),
            ("states", NO_NUMBERS + (0, -1, 61, 10 ** 60), BadKind("states")),
            ("first", NO_NUMBERS + (-1, 2, 10 ** 60), BadKind("first")),
            ("rows", NO_ROWS + ([], [[]], [(0, 0, 0)], [(0, 0, 0, 1, 1)]), BadKind("rows")),
        ])

    def test_bounds(self):
        for asks, answers in ((1, 1), (8, 1), (1, 12), (8, 12)):
            kind = Kind(*of_words(asks, answers))
            self.assertEqual((len(kind.asks), len(kind.answers)), (asks, answers))
        self.assert_raises(BadKind("asks"), Kind, *of_words(9, 1))
        self.assert_raises(BadKind("asks"), Kind, *of_words(9, 13))
        self.assert_raises(BadKind("answers"), Kind, *of_words(8, 13))
        for states in (1, 60):
            self.assertEqual(Kind(*of_states(states)).states, states)
        self.assert_raises(BadKind("states"), Kind, *of_states(61))
        self.assert_raises(BadKind("states"), Kind, ["a"], ["b"], 0, 0, [])
        for first in (0, 59):
            self.assertEqual(Kind(["a"], ["b"], 60, first, of_states(60)[4]).first, first)
        for first in (-1, 60):
            self.assert_raises(BadKind("first"), Kind, ["a"], ["b"], 60, first, of_states(60)[4])

    def test_words_of_asks_and_of_answers_may_be_alike(self):
        kind = Kind(["asks", "ok", "a" * 12], ["ok", "states"], 1, 0, [(0, 0, 0, 0), (0, 1, 1, 0), (0, 2, 0, 0)])
        self.assertEqual(Kind.read(str(kind)), kind)

    def test_rows_bent(self):
        rows = BOX[4]
        for at, row in enumerate(rows):
            self.assert_raises(BadKind("rows"), Kind, *BOX[:4], rows[:at] + rows[at + 1:])
            self.assert_raises(BadKind("rows"), Kind, *BOX[:4], rows[:at] + [row] + rows[at:])
            self.assert_raises(BadKind("rows"), Kind, *BOX[:4], rows[:at] + [row[:3]] + rows[at + 1:])
            self.assert_raises(BadKind("rows"), Kind, *BOX[:4], rows[:at] + [row + (0,)] + rows[at + 1:])
            for place, most in enumerate((2, 2, 2, 2)):
                for number in (-1, most) + NO_NUMBERS:
                    bent = row[:place] + (number,) + row[place + 1:]
                    self.assert_raises(BadKind("rows"), Kind, *BOX[:4], rows[:at] + [bent] + rows[at + 1:])
        for at in range(3):
            swapped = rows[:at] + [rows[at + 1], rows[at]] + rows[at + 2:]
            self.assert_raises(BadKind("rows"), Kind, *BOX[:4], swapped)
        for other in NO_ROWS:
            self.assert_raises(BadKind("rows"), Kind, *BOX[:4], rows[:3] + [other])

    def test_one_next_for_state_ask_and_answer(self):
        self.assert_raises(BadKind("rows"), Kind, ["a"], ["b"], 2, 0, [(0, 0, 0, 0), (0, 0, 0, 1), (1, 0, 0, 0)])
        both = Kind(["a"], ["b", "c"], 2, 0, [(0, 0, 0, 0), (0, 0, 1, 1), (1, 0, 0, 0)])
        self.assertEqual(len(both.rows), 3)

    def test_each_state_has_each_ask(self):
        full = [(state, ask, 0, 0) for state in range(3) for ask in range(3)]
        Kind(["a", "b", "c"], ["x", "y"], 3, 0, full)
        for left in full:
            # As many rows as before: another ask has two answers.
            more = (1, 1, 1, 0) if left != (1, 1, 0, 0) else (0, 0, 1, 0)
            rows = sorted([row for row in full if row != left] + [more])
            self.assert_raises(BadKind("rows"), Kind, ["a", "b", "c"], ["x", "y"], 3, 0, rows)

    def test_600_rows_and_601(self):
        self.assertEqual(len(Kind(*crowd(600)).rows), 600)
        self.assert_raises(BadKind("rows"), Kind, *crowd(601))

    def test_equal_by_attributes(self):
        self.assertEqual(Kind(*BOX), Kind(*listed(BOX)))
        for at, other in enumerate((
            ["put", "pick"], ["ok", "none"], 3, 1, [(0, 0, 0, 0), (0, 1, 1, 0), (1, 0, 0, 1), (1, 1, 0, 0)],
        )):
            given = BOX[:at] + (other,) + BOX[at + 1:]
            if at == 2:
                given = BOX[:2] + (3, 0, BOX[4] + [(2, 0, 0, 0), (2, 1, 0, 0)])
            self.assertIs(Kind(*given) == Kind(*BOX), False)
            self.assertIs(Kind(*given) != Kind(*BOX), True)
        for value in NO_OBJECTS + (BOX, str(Kind(*BOX))):
            self.assertIs(Kind(*BOX) == value, False)
            self.assertIs(value == Kind(*BOX), False)

    def test_is_sure(self):
        self.assertIs(is_sure(Kind(*BOX)), True)
        self.assertIs(is_sure(kind=Kind(*crowd(600))), False)
        for kind in some_kinds(3, 60):
            wanted = all(sum(row[:2] == (state, ask) for row in kind.rows) == 1
                         for state in range(kind.states) for ask in range(len(kind.asks)))
            self.assertIs(is_sure(kind), wanted)

    def test_operations_of(self):
        self.assertEqual(operations_of(Kind(*BOX)), ((0, 0), (1, 0), (1, 1)))
        for kind in some_kinds(4, 60):
            wanted = tuple(sorted({row[1:3] for row in kind.rows}))
            self.assertEqual(operations_of(kind=kind), wanted)

    def test_wrong_kinds(self):
        for function in (is_sure, operations_of):
            self.assert_faults(function, {"kind": Kind(*BOX)}, [("kind", NO_OBJECTS, BadKind("kind"))])


# What the document says of a kind's text, place by place, behind the items ahead.

def is_number(item, least, most):
    return item in [str(number) for number in range(least, most + 1)]


def may_stand(ahead, item):
    """Whether the item can stand behind those ahead, which can."""
    groups = " ".join(ahead).split(" / ") if ahead[-1:] != ["/"] else " ".join(ahead[:-1]).split(" / ") + [""]
    groups = [group.split(" ") if group else [] for group in groups]
    group, at = groups[-1], len(groups[-1])
    if len(groups) <= 2:
        head, most = (("asks", 8), ("answers", 12))[len(groups) - 1]
        if at == 0:
            return item == head
        if item == "/":
            return at > 1
        signs = "abcdefghijklmnopqrstuvwxyz0123456789"
        return at <= most and 1 <= len(item) <= 12 and all(c in signs for c in item) and item not in group[1:]
    states = int(groups[2][1]) if len(groups[2]) > 1 else 60
    if at == 4:
        return item == "/" and len(groups) - 3 < 600
    if len(groups) == 3:
        return (item == "states", is_number(item, 1, 60), item == "first", is_number(item, 0, states - 1))[at]
    return is_number(item, 0, (states, len(groups[0]) - 1, len(groups[1]) - 1, states)[at] - 1)


def wanted_item(text):
    """The item that BadText is to tell, None if the text is right."""
    items = text.split(" ")
    for at, item in enumerate(items):
        if not may_stand(items[:at], item):
            return at
    groups = text.split(" / ")
    if len(groups) < 3 or len(groups[-1].split(" ")) != 4:
        return len(items)
    asks, answers = groups[0].split(" ")[1:], groups[1].split(" ")[1:]
    rows = [[int(number) for number in group.split(" ")] for group in groups[3:]]
    states, first = int(groups[2].split(" ")[1]), int(groups[2].split(" ")[3])
    try:
        Kind(asks, answers, states, first, rows)
    except SeenError:
        return len(items) - 1
    return None


PUT_IN = ("", "/", "a", "ok", "asks", "first", "0", "1", "-1", "-0", "00", "01", "+1", "60", "61", "A", "a" * 13, "1 ", "\u0661", "9" * 61)


class TextsTest(SeenTest):
    def assert_read(self, text):
        item = wanted_item(text)
        if item is None:
            self.assertEqual(str(Kind.read(text)), text)
        else:
            self.assert_raises(BadText(item), Kind.read, text)

    def test_there_and_back(self):
        kinds = made_kinds() + some_kinds(5, 100) + [great_kind(), Kind(*crowd(600)), Kind(*of_words(8, 12))]
        for kind in kinds:
            self.assertEqual(Kind.read(str(kind)), kind)
            self.assertEqual(str(Kind.read(text=str(kind))), str(kind))
            self.assertIsNone(wanted_item(str(kind))) if len(kind.rows) < 100 else None

    def test_the_text(self):
        self.assertEqual(
            str(Kind(*BOX)),
            "asks put take / answers ok short / states 2 first 0 / 0 0 0 1 / 0 1 1 0 / 1 0 0 1 / 1 1 0 0",
        )

    def test_bent_at_each_item(self):
        dice = random.Random(6)
        for kind in [Kind(*BOX)] + [some_kind(dice) for _ in range(6)]:
            items = str(kind).split(" ")
            for at, item in enumerate(items):
                self.assert_read(" ".join(items[:at] + items[at + 1:]))
                self.assert_read(" ".join(items[:at] + [item] + items[at:]))
                self.assert_read(" ".join(items[:at]))
                for other in PUT_IN:
                    self.assert_read(" ".join(items[:at] + [other] + items[at + 1:]))
                    self.assert_read(" ".join(items[:at] + [other] + items[at:]))
                if at:
                    self.assert_read(" ".join(items[:at - 1] + [item, items[at - 1]] + items[at + 1:]))
            for other in PUT_IN:
                self.assert_read(" ".join(items + [other]))

    def test_what_stands_nowhere(self):
        text = str(Kind(*BOX))
        many = len(text.split(" "))
        for bent, item in (
            ("", 0), (" ", 0), ("asks", 1), ("asks ", 1), ("asks put", 2), ("asks put /", 3), (" " + text, 0),
            (text + " ", many), (text + "\n", many - 1), (text.replace(" / ", "  / ", 1), 3), (text.upper(), 0),
        ):
            self.assert_raises(BadText(item), Kind.read, bent)

    def test_no_strings(self):
        for value in NO_NUMBERS[:3] + NO_NUMBERS[5:] + (0, 7, Kind(*BOX), b"asks", ["asks"]):
            self.assert_raises(BadText(0), Kind.read, value)

    def test_too_many_words(self):
        for asks, answers, item in ((9, 1, 9), (8, 13, 8 + 2 + 13)):
            text = "asks " + " ".join(f"a{k}" for k in range(asks)) + " / answers " + " ".join(f"b{k}" for k in range(answers))
            self.assert_raises(BadText(item), Kind.read, text + " / states 1 first 0 / 0 0 0 0")
        text = "asks a b c d e f g h"
        self.assert_raises(BadText(9), Kind.read, text)
        self.assert_raises(BadText(9), Kind.read, text + " i")

    def test_bounds_of_numbers(self):
        head = "asks a / answers b / states "
        for states, item in (("0", 7), ("61", 7), ("-1", 7), ("060", 7), ("60", 9)):
            self.assert_raises(BadText(item), Kind.read, head + states + " first 60")
        for row, item in (("2 0 0 0", 11), ("0 1 0 0", 12), ("0 0 1 0", 13), ("0 0 0 2", 14), ("0 0 0", 14), ("0 0 0 0 0", 15)):
            self.assert_raises(BadText(item), Kind.read, head + "2 first 0 / " + row)

    def test_what_only_the_whole_shows(self):
        head = "asks a / answers b c / states 2 first 0"
        for rows in ("", " / 0 0 0 0", " / 1 0 0 0 / 0 0 0 0", " / 0 0 0 0 / 0 0 0 1 / 1 0 0 0", " / 0 0 0 0 / 0 0 0 0 / 1 0 0 0"):
            text = head + rows
            self.assert_raises(BadText(len(text.split(" ")) - 1), Kind.read, text)
        for rows in (" / 0 0 0 0 / 1 0 1 0", " / 0 0 0 0 / 0 0 1 0 / 1 0 0 1"):
            self.assertEqual(str(Kind.read(head + rows)), head + rows)

    def test_600_rows_and_a_bar_behind(self):
        text = str(Kind(*crowd(600)))
        many = len(text.split(" "))
        for behind in (" /", " / 59 0 2 0", " x", " "):
            self.assert_raises(BadText(many), Kind.read, text + behind)
        rows = "".join(f" / {a} {b} {c} {d}" for a, b, c, d in crowd_rows(601))
        head = "asks a b c d e / answers x y z / states 60 first 59"
        self.assert_raises(BadText(many), Kind.read, head + rows)

    def test_reading_is_short(self):
        kind = great_kind()
        self.assertEqual(self.assert_short(Kind.read, str(kind)), kind)


if __name__ == "__main__":
    unittest.main()
