"""Programs: the houses of a world, and the deals that its hands do."""

from ownseen.checks import are_pairs, is_row, is_within
from ownseen.errors import BadProgram, BadTable
from ownseen.guards import MOST_HOUSES
from ownseen.kinds import Kind
from ownseen.logs import WATCHED, WAYS
from ownseen.ways import tabled

MOST_HANDS = 4
MOST_WORLD_DEALS = 8
MOST_STEPS = 6


def is_table(kind, value):
    """Whether any value is a clash table of operations of the kind."""
    try:
        tabled(kind, value)
    except BadTable:
        return False
    return True


def is_house(value):
    """Whether any value is a triple of a kind, a way and a table."""
    if not is_row(value) or len(value) != 3:
        return False
    kind, way, table = value
    if not isinstance(kind, Kind) or not isinstance(way, str) or way not in WAYS or not is_table(kind, table):
        return False
    return way != WATCHED or len(table) == 0


def is_deal(value, houses):
    """Whether any value has one to six steps at these houses."""
    if not are_pairs(value) or not 1 <= len(value) <= MOST_STEPS:
        return False
    for house, ask in value:
        if not is_within(house, 0, len(houses) - 1) or not is_within(ask, 0, len(houses[house][0].asks) - 1):
            return False
    return True


def are_hands(value, houses):
    """Whether any value has the deals of one to four hands at these houses, not too many in all."""
    if not is_row(value) or not 1 <= len(value) <= MOST_HANDS or not all([is_row(hand) for hand in value]):
        return False
    deals = [deal for hand in value for deal in hand]
    return len(deals) <= MOST_WORLD_DEALS and all([is_deal(deal, houses) for deal in deals])


def fixed_pairs(value):
    """Right pairs as tuples."""
    return tuple([tuple(pair) for pair in value])


class Program:
    """The houses of a world, and for each of its hands the deals that it does, each a row of steps (house, ask)."""

    def __init__(self, houses, hands):
        if not is_row(houses) or not 1 <= len(houses) <= MOST_HOUSES or not all([is_house(one) for one in houses]):
            raise BadProgram("houses")
        if not are_hands(hands, houses):
            raise BadProgram("hands")
        self.houses = tuple([
            (kind, way, tuple([fixed_pairs(pair) for pair in table])) for kind, way, table in houses
        ])
        self.hands = tuple([tuple([fixed_pairs(deal) for deal in hand]) for hand in hands])
        self.deals = tuple([deal for hand in self.hands for deal in hand])
        self.owners = tuple([number for number, hand in enumerate(self.hands) for _ in hand])

    def __eq__(self, other):
        return isinstance(other, Program) and self.houses == other.houses and self.hands == other.hands
