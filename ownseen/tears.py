"""Tears, played: for a table that is not enough a world in which every deal gets its yes, and no order fits."""

from ownseen.clashes import back_table
from ownseen.errors import Impossible, Misfit, TooMany
from ownseen.kinds import is_sure
from ownseen.letters import TELLER
from ownseen.makers import tickets
from ownseen.programs import MOST_STEPS, Program
from ownseen.tables import is_enough, table_pairs
from ownseen.worlds import World

# The deals of the log of a Lacks.
BEFORE = 0
HELD = 1
NEW = 2
BEHIND = 3


class Tear:
    """A tear that is played while its script is written; stays is the letter that is not brought, None without one."""

    def __init__(self, program):
        self.world = World(program)
        self.script = []
        self.stays = None

    def do(self, step):
        """One step of the script."""
        self.script.append(step)
        self.world.step(step)

    def bring(self):
        """Brings the first letter but the one that stays."""
        first = 1 if self.world.letters()[0] == self.stays else 0
        self.do(("bring", first))

    def ask(self, hand):
        """The deal of the hand asks, and is answered."""
        self.do(("send", hand))
        self.bring()
        self.bring()

    def bring_all(self):
        """Brings all letters but the one that stays."""
        while [letter for letter in self.world.letters() if letter != self.stays]:
            self.bring()

    def whole(self, hand, many):
        """The deal of the hand asks so many times, and ends; all its letters are brought."""
        for _ in range(many):
            self.ask(hand)
        self.do(("send", hand))
        self.bring_all()


def works_in(log):
    """For each deal of the log, ascending, the asks that it does."""
    deals = sorted({record[1] for record in log})
    return {deal: [record[2] for record in log if record[0] == "do" and record[1] == deal] for deal in deals}


def lacking(kind, way, table):
    """The log that shows that the table of a sure kind is not enough; raises the errors of all arguments."""
    table_pairs(kind, way, table)
    if not is_sure(kind):
        raise Misfit("kind")
    try:
        paper = is_enough(kind, way, table)
    except TooMany:
        raise TooMany("steps", MOST_STEPS) from None
    if paper:
        raise Impossible(paper)
    if max([len(asks) for asks in works_in(paper.log).values()]) >= MOST_STEPS:
        raise TooMany("steps", MOST_STEPS)
    return paper.log


def program_of(kind, way, table, works):
    """The program of a tear: each deal does its asks at house 0, and then draws at house 1."""
    gate = tickets(len(works))
    hands = [[[(0, ask) for ask in asks] + [(1, 0)]] for asks in works.values()]
    return Program([(kind, way, table), (gate, "in place", back_table(gate))], hands)


def tear_for(kind, way, table):
    """The tear, played to its end."""
    log = lacking(kind, way, table)
    works = works_in(log)
    hands = {deal: number for number, deal in enumerate(works)}
    yeses = [record[1] for record in log if record[0] == "yes"]
    late, early = (HELD, NEW) if yeses.index(HELD) < yeses.index(NEW) else (NEW, HELD)
    tear = Tear(program_of(kind, way, table, works))
    if BEFORE in works:
        tear.whole(hands[BEFORE], len(works[BEFORE]) + 1)
    tear.ask(hands[HELD])
    tear.ask(hands[NEW])
    tear.stays = (0, TELLER, "yes", hands[early])
    tear.whole(hands[early], 1)
    tear.whole(hands[late], 1)
    tear.stays = None
    tear.bring_all()
    if BEHIND in works:
        tear.whole(hands[BEHIND], len(works[BEHIND]) + 1)
    return tear


def tear_of(kind, way, table):
    """The pair of the program and the script of the tear."""
    tear = tear_for(kind, way, table)
    return (tear.world.program, tuple(tear.script))


def played_tear(kind, way, table):
    """The world of the tear, in which its script was run."""
    return tear_for(kind, way, table).world
