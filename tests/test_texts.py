"""Texts: what an integer looks like, and how items are taken."""

import unittest

from ownseen.errors import BadText
from ownseen.texts import Reader, is_number_text

from tests.helper import NO_NUMBERS, SeenTest

RIGHT = ("0", "7", "10", "100", "-1", "-10", "9" * 60, "-" + "9" * 60, "1" + "0" * 59)
WRONG = ("", "-", "-0", "00", "01", "-01", "+1", "--1", "1-", " 1", "1 ", "1.0", "1_0", "0x1", "x", "1x", "9" * 61, "-" + "9" * 61)
WRONG += ("\u0661", "\u00b2", "1\n", "\uff11")


class TextsTest(SeenTest):
    def test_integers(self):
        for item in RIGHT:
            self.assertIs(is_number_text(item), True, item)
            self.assertEqual(Reader(item).take_number(int(item), int(item)), int(item))
        for item in WRONG:
            self.assertIs(is_number_text(item), False, item)
            reader = Reader("a " + item.replace(" ", "_"))
            reader.take_sign("a")
            self.assert_raises(BadText(1), reader.take_number, -10 ** 70, 10 ** 70)

    def test_bounds(self):
        for number, fine in ((-3, False), (-2, True), (0, True), (5, True), (6, False)):
            reader = Reader(f"a {number}")
            reader.take_sign("a")
            if fine:
                self.assertEqual(reader.take_number(-2, 5), number)
                self.assertIs(reader.is_done(), True)
            else:
                self.assert_raises(BadText(1), reader.take_number, -2, 5)

    def test_items_one_by_one(self):
        reader = Reader("a  / b")
        self.assertEqual([reader.take_piece(), reader.take_piece()], ["a", ""])
        self.assertEqual((reader.is_ahead("/"), reader.is_ahead("b"), reader.is_done()), (True, False, False))
        self.assertIsNone(reader.take_sign("/"))
        self.assertEqual(reader.take_piece(), "b")
        self.assertEqual((reader.is_ahead("b"), reader.is_done()), (False, True))
        for take in (reader.take_piece, lambda: reader.take_sign("b"), lambda: reader.take_number(0, 9)):
            self.assert_raises(BadText(4), take)

    def test_what_is_no_string(self):
        for value in NO_NUMBERS[:3] + NO_NUMBERS[5:] + (7, b"a", ["a"]):
            self.assert_raises(BadText(0), Reader, value)


if __name__ == "__main__":
    unittest.main()
