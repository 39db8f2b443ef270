"""What houses and tellers put into their journals, and how it is read again."""

from ownseen.guards import MOST_HOUSES, TOP_DEAL

# The number of its word stands first in each record of a journal; what a teller puts
# has a number of its own, so that neither disk is ever read as one of the other.
WORDS = ("do", "ready", "yes", "no")
TELLER_YES = 4


def packed(record):
    """The record of a log as a journal keeps it."""
    return (WORDS.index(record[0]), *record[1:])


def unpacked(numbers):
    """The record of a log that a journal keeps so."""
    return (WORDS[numbers[0]], *numbers[1:])


def is_packed(numbers):
    """Whether a record of a journal is one of a log."""
    if len(numbers) < 2 or not 0 <= numbers[0] < len(WORDS) or not 0 <= numbers[1] <= TOP_DEAL:
        return False
    return len(numbers) == (4 if numbers[0] == 0 else 2)


def log_records(records):
    """The records of logs among those of a journal, in their order."""
    return [unpacked(numbers) for numbers in records if is_packed(numbers)]


def base_of(state):
    """The base of a journal that folded to the state; that of one which never folded is 0."""
    return state + 1


def folded_to(base):
    """The state to which the journal with this base folded last, None if it never did."""
    return base - 1 if base > 0 else None


def log_kept(records):
    """The log of a life that begins with these records: those of deals that have a ready and no no."""
    told = log_records(records)
    readied = {record[1] for record in told if record[0] == "ready"}
    off = {record[1] for record in told if record[0] == "no"}
    return tuple([record for record in told if record[1] in readied and record[1] not in off])


def packed_yes(deal, houses):
    """A yes with the lot of its houses, as the journal of a teller keeps it."""
    return (TELLER_YES, deal, sum([1 << house for house in houses]))


def is_packed_yes(numbers):
    """Whether a record of a journal is a yes of a teller."""
    if len(numbers) != 3 or numbers[0] != TELLER_YES:
        return False
    return 0 <= numbers[1] <= TOP_DEAL and 0 <= numbers[2] < 1 << MOST_HOUSES


def yeses_kept(records):
    """The pairs (deal, lot of its houses) of the yeses among the records of a journal."""
    return tuple([
        (numbers[1], tuple([house for house in range(MOST_HOUSES) if numbers[2] >> house & 1]))
        for numbers in records if is_packed_yes(numbers)
    ])
