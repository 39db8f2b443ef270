"""Texts: strings of items with single blanks between, and how they are read."""

from ownseen.checks import is_within
from ownseen.errors import BadText

DIGITS = "0123456789"
MOST_DIGITS = 60


def is_number_text(item):
    """Whether the item is an integer as texts write it."""
    digits = item[1:] if item.startswith("-") else item
    if not 1 <= len(digits) <= MOST_DIGITS or not all([sign in DIGITS for sign in digits]):
        return False
    return item == "0" or not digits.startswith("0")


class Reader:
    """Takes the items of a text one by one; what cannot stand raises BadText with its index."""

    def __init__(self, text):
        if not isinstance(text, str):
            raise BadText(0)
        self.pieces = text.split(" ")
        self.at = 0

    def is_done(self):
        """Whether no item is left."""
        return self.at == len(self.pieces)

    def is_ahead(self, sign):
        """Whether just this item comes next."""
        return not self.is_done() and self.pieces[self.at] == sign

    def take_piece(self):
        """The next item, whatever it is."""
        if self.is_done():
            raise BadText(self.at)
        self.at += 1
        return self.pieces[self.at - 1]

    def take_sign(self, sign):
        """Takes the next item, which is to be just this one."""
        if self.take_piece() != sign:
            raise BadText(self.at - 1)

    def take_number(self, least, most):
        """The next item as an integer from least to most, None being no bound."""
        piece = self.take_piece()
        if not is_number_text(piece) or not is_within(int(piece), least, most):
            raise BadText(self.at - 1)
        return int(piece)

    def take_word(self, words):
        """The next item, which is to be one of these words."""
        piece = self.take_piece()
        if piece not in words:
            raise BadText(self.at - 1)
        return piece

    def take_end(self):
        """Wants that no item is left."""
        if not self.is_done():
            raise BadText(self.at)
