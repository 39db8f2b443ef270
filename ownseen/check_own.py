"""Whether a value is a right paper about the own rule, and about what is let by it."""

from ownseen.own import Breaks, Keeps, ended_case
from ownseen.shown import are_rooms, is_break, is_spoilt, is_spoilt_with
from ownseen.watches import Lets, Spoils, always_case, lets_case


def shows_keeps(history, value):
    """Whether it is a right paper of whether the history keeps the own rule."""
    case = ended_case(history)
    if isinstance(value, Keeps):
        return are_rooms(case, value.rooms)
    if isinstance(value, Breaks):
        return is_break(case, case.deals, value.order)
    return False


def shows_always(history, value):
    """Whether it is a right paper of whether the history always keeps the own rule."""
    case = always_case(history)
    if isinstance(value, Lets):
        return are_rooms(case, value.rooms)
    if isinstance(value, Spoils):
        return is_spoilt(case, history.ended, history.readied, value)
    return False


def shows_lets(history, deal, value):
    """Whether it is a right paper of whether the deal is let."""
    case = lets_case(history, deal)
    if isinstance(value, Lets):
        return are_rooms(case, value.rooms)
    if isinstance(value, Spoils):
        return is_spoilt_with(case, history, deal, value)
    return False
