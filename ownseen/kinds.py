"""Kinds: tables of states that tell how a thing answers."""

from ownseen.checks import is_ascending, is_row, is_within, is_word
from ownseen.errors import BadKind, BadText
from ownseen.texts import Reader

MOST_ASKS = 8
MOST_ANSWERS = 12
MOST_STATES = 60
MOST_ROWS = 600


def are_words(value, most):
    """Whether it is a row of 1 to most unlike words."""
    if not is_row(value) or not 1 <= len(value) <= most:
        return False
    return all([is_word(one) for one in value]) and len(set(value)) == len(value)


def is_kind_row(value, bounds):
    """Whether it is a row of four numbers, each below its bound."""
    if not is_row(value) or len(value) != len(bounds):
        return False
    return all([is_within(number, 0, bound - 1) for number, bound in zip(value, bounds)])


def are_kind_rows(value, bounds):
    """Whether it is a row of rows of a kind, not too many, each by itself as it should be."""
    if not is_row(value) or len(value) > MOST_ROWS:
        return False
    return all([is_kind_row(row, bounds) for row in value])


def are_whole(rows, states, asks):
    """Whether the rows ascend, tell one next at most, and leave no state without an ask."""
    threes = [tuple(row[:3]) for row in rows]
    return is_ascending(threes) and len({(row[0], row[1]) for row in rows}) == states * asks


def offers_of(states, rows):
    """For each state the operations that are possible from it, ascending."""
    offers = [[] for _ in range(states)]
    for row in rows:
        offers[row[0]].append((row[1], row[2]))
    return tuple([tuple(offer) for offer in offers])


class Kind:
    """A kind; beside what is told, nexts and offers keep its rows where plays find them."""

    def __init__(self, asks, answers, states, first, rows):
        if not are_words(asks, MOST_ASKS):
            raise BadKind("asks")
        if not are_words(answers, MOST_ANSWERS):
            raise BadKind("answers")
        if not is_within(states, 1, MOST_STATES):
            raise BadKind("states")
        if not is_within(first, 0, states - 1):
            raise BadKind("first")
        bounds = (states, len(asks), len(answers), states)
        if not are_kind_rows(rows, bounds) or not are_whole(rows, states, len(asks)):
            raise BadKind("rows")
        self.asks = tuple(asks)
        self.answers = tuple(answers)
        self.states = states
        self.first = first
        self.rows = tuple([tuple(row) for row in rows])
        self.nexts = {row[:3]: row[3] for row in self.rows}
        self.offers = offers_of(states, self.rows)

    def __eq__(self, other):
        return (
            isinstance(other, Kind)
            and self.asks == other.asks
            and self.answers == other.answers
            and self.states == other.states
            and self.first == other.first
            and self.rows == other.rows
        )

    def __str__(self):
        head = ["asks", *self.asks, "/", "answers", *self.answers, "/"]
        states = ["states", str(self.states), "first", str(self.first)]
        rows = [f"/ {state} {ask} {answer} {to}" for state, ask, answer, to in self.rows]
        return " ".join(head + states + rows)

    @staticmethod
    def read(text):
        """The kind whose text this is."""
        return read_kind(text)


def read_words(reader, head, most):
    """The unlike words behind their head, up to a bar."""
    reader.take_sign(head)
    words = []
    while not words or not reader.is_ahead("/"):
        piece = reader.take_piece()
        if not is_word(piece) or piece in words or len(words) == most:
            raise BadText(reader.at - 1)
        words.append(piece)
    reader.take_sign("/")
    return words


def read_rows(reader, bounds):
    """The rows of four numbers, each behind a bar, up to the end."""
    rows = []
    while not reader.is_done():
        if len(rows) == MOST_ROWS:
            raise BadText(reader.at)
        reader.take_sign("/")
        rows.append([reader.take_number(0, bound - 1) for bound in bounds])
    return rows


def read_kind(text):
    """The kind whose text this is."""
    reader = Reader(text)
    asks = read_words(reader, "asks", MOST_ASKS)
    answers = read_words(reader, "answers", MOST_ANSWERS)
    reader.take_sign("states")
    states = reader.take_number(1, MOST_STATES)
    reader.take_sign("first")
    first = reader.take_number(0, states - 1)
    rows = read_rows(reader, (states, len(asks), len(answers), states))
    if not are_whole(rows, states, len(asks)):
        raise BadText(reader.at - 1)
    return Kind(asks, answers, states, first, rows)


def want_kind(kind):
    """Raises BadKind for what is no kind."""
    if not isinstance(kind, Kind):
        raise BadKind("kind")


def is_sure(kind):
    """Whether it has just one row for each state and ask."""
    want_kind(kind)
    return len(kind.rows) == kind.states * len(kind.asks)


def operations_of(kind):
    """The operations that are possible from some state, ascending."""
    want_kind(kind)
    return tuple(sorted({(row[1], row[2]) for row in kind.rows}))


def with_first(kind, state):
    """The kind with this first state; the kind itself for None."""
    return kind if state is None else Kind(kind.asks, kind.answers, kind.states, state, kind.rows)
