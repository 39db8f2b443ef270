"""What any value is asked."""

import unittest
from itertools import product

from ownseen.checks import are_pairs, is_integer, is_lot, is_within, is_word

from tests.helper import NO_NUMBERS, NO_ROWS

HUGE = 10 ** 60


class ChecksTest(unittest.TestCase):
    def assert_just(self, wanted, told):
        self.assertIs(told, wanted)

    def test_is_integer(self):
        for value in (0, 1, -1, 7, HUGE, -HUGE):
            self.assert_just(True, is_integer(value))
        for value in NO_NUMBERS:
            self.assert_just(False, is_integer(value))
        self.assert_just(True, is_integer(value=3))

    def test_is_within_both_bounds(self):
        for value, least, most in product(range(-3, 4), repeat=3):
            self.assert_just(least <= value <= most, is_within(value, least, most))

    def test_is_within_without_bounds(self):
        for value in (-HUGE, -1, 0, 1, HUGE):
            self.assert_just(True, is_within(value, None, None))
            self.assert_just(value >= 0, is_within(value, 0, None))
            self.assert_just(value <= 0, is_within(value, None, 0))
        self.assert_just(True, is_within(value=3, least=3, most=3))

    def test_is_within_of_other_values(self):
        for value in NO_NUMBERS:
            for least, most in ((None, None), (0, None), (None, 5), (0, 5)):
                self.assert_just(False, is_within(value, least, most))

    def test_is_lot_of_all_short_rows(self):
        for many in range(4):
            for length in range(4):
                for row in product(range(-1, 4), repeat=length):
                    wanted = list(row) == sorted(set(row)) and all(0 <= one < many for one in row)
                    self.assert_just(wanted, is_lot(row, many))
                    self.assert_just(wanted, is_lot(list(row), many))

    def test_is_lot_of_other_values(self):
        for value in NO_ROWS:
            self.assert_just(False, is_lot(value, 2))
        for value in NO_NUMBERS:
            self.assert_just(False, is_lot([value], 2))
            self.assert_just(False, is_lot([0, value], 2))
        self.assert_just(True, is_lot(value=[0, HUGE], many=HUGE + 1))
        self.assert_just(False, is_lot([0, HUGE], HUGE))

    def test_is_word(self):
        for value in ("a", "z", "0", "9", "az09", "a" * 12, "012345678901"):
            self.assert_just(True, is_word(value))
        for value in ("", "a" * 13, "A", "a b", " a", "a ", "a_", "a-b", "a/", "\u00e9", "\u0663", "a\n", "\u00b2", "a\x00"):
            self.assert_just(False, is_word(value))
        for value in NO_NUMBERS[:3] + NO_NUMBERS[5:] + (["a"], ("a",), 7, b"a"):
            self.assert_just(False, is_word(value))
        self.assert_just(True, is_word(value="take2"))

    def test_every_sign_by_itself(self):
        for code in range(0x250):
            self.assert_just(chr(code) in "abcdefghijklmnopqrstuvwxyz0123456789", is_word(chr(code)))

    def test_are_pairs(self):
        for value in ((), [], [(0, 1)], ((0, 1), [2, 3]), [[-5, HUGE]], [(1, 1)] * 3):
            self.assert_just(True, are_pairs(value))
        for value in ([()], [(0,)], [(0, 1, 2)], [0], [0, 1], [(0, 1), 2], [(0, 1), None], ["ab"], [{0: 1, 1: 2}], [{0, 1}]):
            self.assert_just(False, are_pairs(value))
        for value in NO_ROWS:
            self.assert_just(False, are_pairs(value))
        for value in NO_NUMBERS:
            self.assert_just(False, are_pairs([(0, value)]))
            self.assert_just(False, are_pairs([(0, 0), (value, 0)]))
        self.assert_just(True, are_pairs(value=[]))


if __name__ == "__main__":
    unittest.main()
