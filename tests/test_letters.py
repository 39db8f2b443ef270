"""Letters: each word between all nodes, each item bent, and texts held against the items that can stand."""

import random
import re
import unittest

from ownseen.errors import BadText, BadValue
from ownseen.letters import is_letter, letter_text, read_letter

from tests.helper import NO_ROWS, SeenTest, bends, listed, strict

# What a word has behind it, for one who sends it and one who gets it.
SAMPLES = {
    "ask": ((0, 0, 1), (5, 7, 10 ** 59), (3, 1, 2)), "no": ((),), "answer": ((0, 0, 1), (5, 11, 7)), "gone": ((1,), (10 ** 59,)),
    "end": ((1, ()), (9, ((0, 1, 1),)), (2, ((3, 6, 8),)), (1, ((0, 1, 1), (1, 2, 2), (2, 6, 3), (3, 1, 4))), (1, ((0, 1, 1), (3, 2, 2)))),
    "told": ((1, 1), (0, 7)), "hold": ((1, 1), (6, 9)), "yes": ((),), "held": ((),), "barred": ((),), "what": ((),), "done": ((),),
}


def side(node):
    return "houses"[:5] if node < 4 else "teller" if node == 4 else "hand"


PATHS = {
    ("hand", "house"): ("ask", "no"), ("house", "hand"): ("answer", "gone"), ("hand", "teller"): ("end",), ("teller", "hand"): ("told",),
    ("teller", "house"): ("hold", "yes", "no"), ("house", "teller"): ("held", "barred", "what", "done"),
}


def words_from(sender, to):
    return PATHS.get((side(sender), side(to)), ())


def right_letters():
    return [
        (to, sender, word, deal) + more
        for to in range(9) for sender in range(9) for word in words_from(sender, to) for deal in (0, 11) for more in SAMPLES[word]
    ]


LETTERS = right_letters()


def plain_is_letter(value):
    """Whether a value of lists, numbers and words is a letter."""
    row = lambda one: isinstance(one, (list, tuple))
    number = lambda one, least, most: type(one) is int and least <= one <= most
    if not row(value) or len(value) < 4 or not number(value[0], 0, 8) or not number(value[1], 0, 8) or not number(value[3], 0, 11):
        return False
    if type(value[2]) is not str or value[2] not in words_from(value[1], value[0]):
        return False
    great, more = 10 ** 99, list(value[4:])
    bounds = {"ask": [(0, 5), (0, 7), (1, great)], "answer": [(0, 5), (0, 11), (1, great)], "gone": [(1, great)], "end": [(1, great)],
              "told": [(0, 1), (1, great)], "hold": [(1, 6), (1, great)]}.get(value[2], [])
    if value[2] == "end":
        rows = more.pop() if more else None
        if not row(rows) or not all(row(one) and len(one) == 3 for one in rows):
            return False
        if not all(number(one[0], 0, 3) and number(one[1], 1, 6) and number(one[2], 1, great) for one in rows):
            return False
        if [one[0] for one in rows] != sorted({one[0] for one in rows}):
            return False
    return len(more) == len(bounds) and all(number(one, *bound) for one, bound in zip(more, bounds))


def flat(letter):
    """The items of the text of a letter."""
    items = []
    for one in letter:
        if isinstance(one, tuple):
            for row in one:
                items += ["/"] + [str(number) for number in row]
        else:
            items.append(str(one))
    return items


def can_stand(ahead, item):
    """Whether an item can stand behind right ones."""
    number = lambda least, most: bool(re.fullmatch(r"0|-?[1-9][0-9]{0,59}", item)) and least <= int(item) <= most
    place, great = len(ahead), 10 ** 99
    if place == 0:
        return number(0, 8)
    if place == 1:
        return number(0, 8) and bool(words_from(int(item), int(ahead[0])))
    if place == 2:
        return item in words_from(int(ahead[1]), int(ahead[0]))
    if place == 3:
        return number(0, 11)
    bounds = {"ask": [(0, 5), (0, 7), (1, great)], "answer": [(0, 5), (0, 11), (1, great)], "gone": [(1, great)], "end": [(1, great)],
              "told": [(0, 1), (1, great)], "hold": [(1, 6), (1, great)]}.get(ahead[2], [])
    if place - 4 < len(bounds):
        return number(*bounds[place - 4])
    if ahead[2] != "end":
        return False
    houses = [int(ahead[at + 1]) for at in range(place - 1) if ahead[at] == "/"]
    last = place - 1 - max([at for at in range(place) if ahead[at] == "/"], default=-99)
    if last > 4 or last == 3:
        return item == "/" and (not houses or houses[-1] < 3)
    return (number(max(houses, default=-1) + 1, 3), number(1, 6), number(1, great))[last]


def is_whole(items):
    """Whether right items are all of a letter."""
    many = {"ask": 7, "answer": 7, "gone": 5, "told": 6, "hold": 6, "end": 5}.get(items[2], 4) if len(items) > 2 else 99
    return len(items) == many or (len(items) > 2 and items[2] == "end" and len(items) >= 5 and (len(items) - 5) % 4 == 0)


def plain_fault(text):
    """The index of the first item that cannot stand, or is missing; None for the text of a letter."""
    items = text.split(" ")
    for at, item in enumerate(items):
        if not can_stand(items[:at], item):
            return at
    return None if is_whole(items) else len(items)


class LettersTest(SeenTest):
    def test_each_word_between_all_nodes(self):
        right = 0
        for to in range(-1, 10):
            for sender in range(-1, 10):
                for word in SAMPLES:
                    for more in SAMPLES[word]:
                        letter = (to, sender, word, 3) + more
                        wanted = 0 <= to < 9 and 0 <= sender < 9 and word in words_from(sender, to)
                        self.assertIs(is_letter(letter), wanted)
                        self.assertIs(is_letter(listed(letter)), wanted)
                        right += wanted
                        if not wanted:
                            self.assert_raises(BadValue("letter"), letter_text, letter)
        self.assertEqual(right, len(LETTERS) // 2)
        self.assertEqual(len({(side(a), side(b), word) for (b, a, word) in [letter[:3] for letter in LETTERS]}), 13)

    def test_bent_letters(self):
        right = 0
        for letter in LETTERS:
            if letter[0] in (0, 4, 5) and letter[1] in (1, 4, 8):
                for value in bends(letter):
                    wanted = plain_is_letter(value)
                    self.assertIs(is_letter(value), wanted, value)
                    right += wanted
                    if not wanted:
                        self.assert_raises(BadValue("letter"), letter_text, value)
        self.assertGreater(right, 100)

    def test_what_is_no_letter(self):
        for value in NO_ROWS + ((), [], ("ask",), [0, 5, "no"], [[0, 5, "no", 3]], (0, 5, ("no",), 3), (0, 5, ["no"], 3), (0, 5, {}, 3)):
            self.assertIs(is_letter(value=value), False)
            self.assert_raises(BadValue("letter"), letter_text, letter=value)

    def test_texts(self):
        for letter in LETTERS:
            text = " ".join(flat(letter))
            self.assertEqual(letter_text(letter), text)
            self.assertEqual(letter_text(listed(letter)), text)
            self.assertEqual(strict(read_letter(text=text)), strict(letter))
            self.assertEqual(read_letter(text), letter)

    def test_bent_texts(self):
        counts, dice = {}, random.Random(5)
        extra = ("", "/", "0", "1", "3", "4", "8", "-1", "00", "+1", "1.0", "no", "ask", "end", "x", "10", "12", "9" * 60, "1" + "0" * 60)
        for letter in [one for one in LETTERS if one[0] in (0, 3, 4, 8) and one[1] in (0, 2, 4, 5)]:
            items = flat(letter)
            for at in range(len(items) + 1):
                some = [items[:at] + [word] + items[at + many:] for word in extra for many in (0, 1)]
                some += [items[:at], items[:at] + items[at + 1:], items[:at] + items[at:at + 1] * 2 + items[at + 1:]]
                for row in dice.sample(some, 14):
                    text = " ".join(row)
                    wanted = plain_fault(text)
                    if wanted is None:
                        self.assertEqual(letter_text(read_letter(text)), text)
                    else:
                        self.assert_raises(BadText(wanted), read_letter, text)
                    counts[wanted] = counts.get(wanted, 0) + 1
        self.assertGreater(counts[None], 100)
        self.assertTrue(all(counts.get(at, 0) > 10 for at in range(18)), counts)

    def test_texts_of_other_values(self):
        for value in (None, 0, True, b"0 5 no 3", ["0"], (), 1.5, object()):
            self.assert_raises(BadText(0), read_letter, value)
        for text, item in (
            ("", 0), (" ", 0), ("0 5 no 3 ", 4), (" 0 5 no 3", 0), ("0  5 no 3", 1), ("0 5 no 3\n", 3), ("0\t5 no 3", 0), ("0 5 No 3", 2),
            ("4 5 end 3 1 /", 6), ("4 5 end 3 1 / 3 1 1 /", 9), ("4 5 end 3 1 / 3 1 1 / 3 1 1", 9), ("4 5 end 3 1 1", 5), ("4 5 end 3", 4),
            ("8 5 told 3 1 1", 1), ("4 4 held 3", 1), ("0 1 no 3", 1), ("0 4 told 3 1 1", 2), ("0 5 ask 3 6 0 1", 4), ("0 5 ask 3 5 8 1", 5),
            ("4 5 end 3 1 / 0 7 1", 7), ("5 4 told 3 2 1", 4), ("5 4 told 3 1 0", 5), ("0 5 no 12", 3), ("9 5 no 1", 0), ("0 9 no 1", 1),
        ):
            self.assert_raises(BadText(item), read_letter, text)

    def test_what_is_passed_stays(self):
        letter = [4, 5, "end", 3, 1, [[0, 1, 1]]]
        self.assertTrue(is_letter(letter))
        letter_text(letter)
        self.assertEqual(letter, [4, 5, "end", 3, 1, [[0, 1, 1]]])


if __name__ == "__main__":
    unittest.main()
