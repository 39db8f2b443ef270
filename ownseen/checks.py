"""What any value is asked: whether it is a number, a lot, a word, a row of pairs."""

WORD_SIGNS = "abcdefghijklmnopqrstuvwxyz0123456789"
MOST_SIGNS = 12


def is_integer(value):
    """Whether it is an integer; True and False are none."""
    return isinstance(value, int) and not isinstance(value, bool)


def is_within(value, least, most):
    """Whether it is an integer from least to most, None being no bound."""
    if not is_integer(value):
        return False
    return (least is None or least <= value) and (most is None or value <= most)


def is_row(value):
    """Whether it is a list or a tuple."""
    return isinstance(value, (list, tuple))


def are_integers(value):
    """Whether it is a row of integers, perhaps of none."""
    return is_row(value) and all([is_integer(one) for one in value])


def is_ascending(rows):
    """Whether each of the rows is less than the one behind it."""
    return all([rows[at] < rows[at + 1] for at in range(len(rows) - 1)])


def is_lot(value, many):
    """Whether it is a lot of numbers below many."""
    if not is_row(value):
        return False
    return all([is_within(one, 0, many - 1) for one in value]) and is_ascending(value)


def is_order(value, deals):
    """Whether it is a row of all the deals, each once; the deals are a lot."""
    return are_integers(value) and sorted(value) == list(deals)


def is_word(value):
    """Whether it is a word."""
    if not isinstance(value, str) or not 1 <= len(value) <= MOST_SIGNS:
        return False
    return all([sign in WORD_SIGNS for sign in value])


def are_pairs(value):
    """Whether it is a row of pairs of integers, perhaps of none."""
    return is_row(value) and all([are_integers(pair) and len(pair) == 2 for pair in value])
