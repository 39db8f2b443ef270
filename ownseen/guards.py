"""What several modules want of their arguments; each raises its error otherwise."""

from ownseen.checks import is_within
from ownseen.errors import BadNumber, TooMany

MOST_DEALS = 7
TOP_DEAL = 11
MOST_HOUSES = 4


def want_within(value, least, most, part):
    """Raises BadNumber for what is no integer from least to most."""
    if not is_within(value, least, most):
        raise BadNumber(part)


def want_number(value, many, part):
    """Raises BadNumber for what is no number of one of so many."""
    want_within(value, 0, many - 1, part)


def want_deal(deal):
    """Raises BadNumber for what is no number of a deal."""
    want_within(deal, 0, TOP_DEAL, "deal")


def want_few(deals):
    """Raises TooMany if there are more deals than all orders are looked at of."""
    if len(deals) > MOST_DEALS:
        raise TooMany("deals", MOST_DEALS)
