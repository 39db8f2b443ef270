"""Letters between houses, the teller and hands, and their texts."""

from ownseen.checks import is_row, is_within
from ownseen.errors import BadText, BadValue
from ownseen.guards import MOST_HOUSES, TOP_DEAL
from ownseen.texts import Reader

TELLER = 4
FIRST_HAND = 5
TOP_NODE = 8

# For the side that gets a letter, the one that sends it and the word between them the
# bounds of the integers behind the deal; an end has its rows behind these.
BOUNDS = {
    ("house", "hand", "ask"): ((0, 5), (0, 7), (1, None)),
    ("house", "hand", "no"): (),
    ("hand", "house", "answer"): ((0, 5), (0, 11), (1, None)),
    ("hand", "house", "gone"): ((1, None),),
    ("teller", "hand", "end"): ((1, None),),
    ("hand", "teller", "told"): ((0, 1), (1, None)),
    ("house", "teller", "hold"): ((1, 6), (1, None)),
    ("house", "teller", "yes"): (),
    ("house", "teller", "no"): (),
    ("teller", "house", "held"): (),
    ("teller", "house", "barred"): (),
    ("teller", "house", "what"): (),
    ("teller", "house", "done"): (),
}
MOST_ASKS = 6


def side_of(node):
    """What the node of this number is."""
    if node == TELLER:
        return "teller"
    return "house" if node < TELLER else "hand"


def bounds_between(to, sender):
    """For each word that goes from the sender to this node the bounds behind it; none if none goes."""
    sides = (side_of(to), side_of(sender))
    return {key[2]: bounds for key, bounds in BOUNDS.items() if key[:2] == sides}


def are_bounded(values, bounds):
    """Whether the values are integers within these bounds, one for each."""
    if len(values) != len(bounds):
        return False
    return all([is_within(value, bound[0], bound[1]) for value, bound in zip(values, bounds)])


def are_end_rows(value):
    """Whether any value has rows (house, many, life), houses ascending."""
    if not is_row(value) or not all([is_row(row) for row in value]):
        return False
    least = 0
    for row in value:
        if not are_bounded(row, ((least, MOST_HOUSES - 1), (1, MOST_ASKS), (1, None))):
            return False
        least = row[0] + 1
    return True


def is_letter(value):
    """Whether any value is a letter."""
    if not is_row(value) or len(value) < 4:
        return False
    to, sender, word, deal = value[:4]
    if not is_within(to, 0, TOP_NODE) or not is_within(sender, 0, TOP_NODE) or not is_within(deal, 0, TOP_DEAL):
        return False
    words = bounds_between(to, sender)
    if not isinstance(word, str) or word not in words:
        return False
    if word == "end":
        return are_bounded(value[4:-1], words[word]) and are_end_rows(value[-1])
    return are_bounded(value[4:], words[word])


def letter_text(letter):
    """The text of the letter."""
    if not is_letter(letter):
        raise BadValue("letter")
    if letter[2] != "end":
        return " ".join([str(item) for item in letter])
    rows = [f"/ {house} {many} {life}" for house, many, life in letter[-1]]
    return " ".join([str(item) for item in letter[:-1]] + rows)


def read_sender(reader, to):
    """The node that comes next, from which some letter goes to this one."""
    sender = reader.take_number(0, TOP_NODE)
    if not bounds_between(to, sender):
        raise BadText(reader.at - 1)
    return sender


def read_end_rows(reader):
    """The rows of an end, each behind a bar, up to the end."""
    rows = []
    least = 0
    while not reader.is_done():
        if least == MOST_HOUSES:
            raise BadText(reader.at)
        reader.take_sign("/")
        house = reader.take_number(least, MOST_HOUSES - 1)
        rows.append((house, reader.take_number(1, MOST_ASKS), reader.take_number(1, None)))
        least = house + 1
    return tuple(rows)


def read_letter(text):
    """The letter whose text this is."""
    reader = Reader(text)
    to = reader.take_number(0, TOP_NODE)
    sender = read_sender(reader, to)
    words = bounds_between(to, sender)
    word = reader.take_word(list(words))
    deal = reader.take_number(0, TOP_DEAL)
    numbers = [reader.take_number(bound[0], bound[1]) for bound in words[word]]
    if word == "end":
        return (to, sender, word, deal, *numbers, read_end_rows(reader))
    reader.take_end()
    return (to, sender, word, deal, *numbers)
