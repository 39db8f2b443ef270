"""Scripts: each step bent in one place, and texts held against the items that can stand."""

import random
import re
import unittest

from ownseen.errors import BadScript, BadText
from ownseen.scripts import is_script, read_script, script_text

from tests.helper import NO_ROWS, SeenTest, bends, listed, strict
from tests.plain_worlds import some_script

GREAT = 10 ** 99
BOUNDS = {
    "send": [3], "bring": [GREAT], "lose": [GREAT], "twice": [GREAT], "cut": [4, GREAT], "fuse": [4, GREAT], "rise": [4], "drop": [3, 7],
    "again": [4], "sweep": [3], "quit": [7],
}
STEPS = [(word, *numbers) for word, tops in BOUNDS.items() for numbers in ([0] * len(tops), [min(top, 9 ** 60 // 9) for top in tops])]


def is_plain_step(value):
    if not isinstance(value, (list, tuple)) or not value or type(value[0]) is not str or value[0] not in BOUNDS:
        return False
    tops = BOUNDS[value[0]]
    return len(value) == 1 + len(tops) and all(type(one) is int and 0 <= one <= top for one, top in zip(value[1:], tops))


def plain_fault(text):
    """The index of the first item that cannot stand, or is missing; None for the text of a script."""
    items, due, steps = text.split(" "), "word", 0
    if text == "":
        return None
    left = []
    for at, item in enumerate(items):
        if due == "word":
            if item not in BOUNDS:
                return at
            left, due, steps = list(BOUNDS[item]), "number", steps + 1
        elif left:
            if not re.fullmatch("0|[1-9][0-9]{0,59}", item) or int(item) > left.pop(0):
                return at
        else:
            if item != "/" or steps == 400:
                return at
            due = "word"
    return len(items) if left or due == "word" else None


class ScriptsTest(SeenTest):
    def test_right_scripts(self):
        self.assertIs(is_script(STEPS), True)
        for step in STEPS:
            self.assertIs(is_script([step]), True)
            self.assertIs(is_script((list(step),)), True)
            text = " ".join(map(str, step))
            self.assertEqual(script_text([step]), text)
            self.assertEqual(strict(read_script(text)), strict((step,)))
        self.assertEqual((script_text([]), script_text(()), read_script("")), ("", "", ()))
        for seed in range(40):
            script = some_script(random.Random(seed))
            text = " / ".join(" ".join(map(str, step)) for step in script)
            self.assertEqual(script_text(script=listed(script)), text)
            told = read_script(text=text)
            self.assertEqual(told, tuple(script))
            self.assertTrue(type(told) is tuple and all(type(step) is tuple for step in told))

    def test_bent_steps(self):
        right = 0
        for step in STEPS:
            for value in bends(step):
                wanted = is_plain_step(value)
                right += wanted
                self.assertIs(is_script([("send", 0), value]), wanted, value)
                self.assertIs(is_script((value, ("send", 0))), wanted, value)
                if not wanted:
                    self.assert_raises(BadScript("script"), script_text, [value])
        self.assertGreater(right, 10)
        for value in (("go", 0), ("Send", 0), ("send ", 0), (), [], ("send",), (["send"], 0), ({}, 0), ("rise", 5), ("drop", 4, 0), ("drop", 3, 8)):
            self.assertIs(is_script([value]), False)

    def test_what_is_no_script(self):
        for value in NO_ROWS + (("send", 0), "send 0", [None], [[]], [0], [[[("send", 0)]]]):
            self.assertIs(is_script(value=value), False)
            self.assert_raises(BadScript("script"), script_text, script=value)

    def test_four_hundred_steps_and_one_more(self):
        script = [("send", 0)] * 400
        text = script_text(script)
        self.assertEqual((is_script(script), len(read_script(text)), is_script(script + [("send", 0)])), (True, 400, False))
        self.assert_raises(BadScript("script"), script_text, script + [("send", 0)])
        for more in (" / send 0", " /", " / x", " send"):
            self.assert_raises(BadText(400 * 3 - 1), read_script, text + more)
        self.assert_raises(BadText(399 * 3), read_script, text[:-6] + "x 0")

    def test_bent_texts(self):
        dice, counts = random.Random(7), {}
        extra = ("", "/", "0", "3", "4", "5", "8", "-1", "-0", "01", "+1", "send", "cut", "drop", "Send", "x", "1" * 60, "1" * 61)
        for seed in range(120):
            items = script_text([dice.choice(STEPS) for _ in range(dice.randint(1, 4))]).split(" ")
            for at in range(len(items) + 1):
                word = dice.choice(extra)
                for row in (
                    items[:at], items[:at] + items[at + 1:], items[:at] + [word] + items[at:], items[:at] + [word] + items[at + 1:],
                    items[:at] + items[at:at + 1] * 2 + items[at + 1:],
                ):
                    text = " ".join(row)
                    wanted = plain_fault(text)
                    if wanted is None:
                        self.assertEqual(script_text(read_script(text)), text)
                    else:
                        self.assert_raises(BadText(wanted), read_script, text)
                    counts[wanted] = counts.get(wanted, 0) + 1
        self.assertTrue(counts[None] > 30 and all(counts.get(at, 0) > 20 for at in range(12)), counts)

    def test_texts_of_other_values(self):
        for value in (None, 0, True, b"send 0", ["send 0"], (), 1.5, object()):
            self.assert_raises(BadText(0), read_script, value)
        for text, item in ((" ", 0), ("send 0 ", 2), (" send 0", 0), ("send  0", 1), ("send 0\n", 1), ("send 0 / ", 3), ("send 0 /", 3), ("/", 0),
                           ("send", 1), ("cut 1", 2), ("send 0/ send 0", 1), ("send 0 send 0", 2), ("send 4", 1), ("drop 0 8", 2), ("bring -1", 1)):
            self.assert_raises(BadText(item), read_script, text)

    def test_what_is_passed_stays(self):
        script = [["send", 0], ["bring", 0]]
        self.assertTrue(is_script(script))
        script_text(script)
        self.assertEqual(script, [["send", 0], ["bring", 0]])


if __name__ == "__main__":
    unittest.main()
