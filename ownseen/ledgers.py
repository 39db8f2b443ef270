"""Ledgers: what a house has in mind in one life."""

from ownseen.kinds import Kind
from ownseen.logs import logged


def with_first(kind, state):
    """The kind with this first state; the kind itself for None."""
    return kind if state is None else Kind(kind.asks, kind.answers, kind.states, state, kind.rows)


class Ledger:
    """The log of a life and what comes of it; the kind has the first state of this life.

    Queue has the asks that wait, as triples (deal, ask, hand); askers tells for each deal
    from which hand its last ask came.
    """

    def __init__(self, kind, log):
        self.kind = kind
        self.queue = []
        self.askers = {}
        self.closed = {}
        self.keep(log)

    def keep(self, log):
        """Takes this log for the one that was."""
        self.lines = tuple(log)
        self.history = logged(self.kind, self.lines)
        for deal in self.history.ended:
            self.closed[deal] = True

    def join(self, record):
        """One record more joins the log."""
        self.keep(self.lines + (record,))

    def shut(self, deal):
        """The deal is closed; its records leave the log, and its ask waits no more."""
        self.keep([record for record in self.lines if record[1] != deal])
        self.queue = [wait for wait in self.queue if wait[0] != deal]
        self.closed[deal] = True

    def fold(self, state):
        """The log is empty, and this its first state."""
        self.kind = with_first(self.kind, state)
        self.keep(())

    def done_by(self, deal):
        """The operations that the deal did."""
        return self.history.works.get(deal, ())


def is_waiting(ledger, deal):
    """Whether an ask of the deal waits."""
    return any([wait[0] == deal for wait in ledger.queue])


def working_in(ledger):
    """The lot of the deals at work."""
    history = ledger.history
    deals = {deal: True for deal in history.opened if deal not in history.readied}
    for wait in ledger.queue:
        deals[wait[0]] = True
    return tuple(sorted(deals))
