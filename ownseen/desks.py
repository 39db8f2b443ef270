"""Desks: all that is told of a weave, as papers and in words."""

from ownseen.joins import joined
from ownseen.own import keeps
from ownseen.weaves import histories_of, order_of_all, want_weave


def audit(weave):
    """What keeps tells of each house, then what joined tells, then what order_of_all tells."""
    want_weave(weave)
    # All histories come first: those that are too long are told of ahead of deals that are too many.
    histories = histories_of(weave)
    return (*[keeps(history) for history in histories], joined(weave), order_of_all(weave))


def with_deals(words, deals):
    """The words, and deals behind a colon."""
    return " ".join([words + ":", *[str(deal) for deal in deals]])


def advice(weave):
    """The same in words."""
    papers = audit(weave)
    lines = []
    for house, paper in enumerate(papers[:-2]):
        if paper:
            lines.append(f"house {house} keeps its own rule")
        else:
            lines.append(with_deals(f"house {house} breaks its own rule", paper.order))
    lines.append(with_deals("one order fits", papers[-1].order) if papers[-1] else "no order fits")
    return tuple(lines)
