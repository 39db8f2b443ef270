"""Accord: whether the disks of a teller and of its houses, side by side, agree about every yes."""

from ownseen.checks import is_row
from ownseen.disks import Disk
from ownseen.entries import folded_to, log_records
from ownseen.errors import BadValue, Misfit
from ownseen.guards import MOST_HOUSES
from ownseen.journals import meant
from ownseen.papers import Denial, Paper
from ownseen.tellers import yeses_of


class Accord(Paper):
    """For each yes of a teller, and each of its houses, what lies on the disk of the house."""

    def __init__(self, rows):
        super().__init__("accord", rows)
        self.rows = self.parts[0]


class Quarrel(Denial):
    """A deal, and a house whose disk does not agree about it with that of the teller."""

    def __init__(self, deal, house):
        super().__init__("quarrel", deal, house)
        self.deal = self.parts[0]
        self.house = self.parts[1]


class Bearing:
    """What lies on the disk of a house: words has those of the records of each deal."""

    def __init__(self, disk):
        _, base, records = meant(disk)
        self.is_folded = folded_to(base) is not None
        self.words = {}
        for record in log_records(records):
            self.words.setdefault(record[1], []).append(record[0])


def word_for(bearing, deal):
    """What lies there for a deal, as an Accord tells it."""
    words = bearing.words.get(deal, ())
    if "yes" in words:
        return "ended"
    return "ready" if "ready" in words else "folded"


def bears(bearing, deal):
    """Whether the disk bears the deal."""
    words = bearing.words.get(deal, ())
    return "yes" in words or ("ready" in words and "no" not in words) or bearing.is_folded


def want_disks(teller, disks):
    """Raises BadValue, Misfit for what are no disks of a teller and of its houses."""
    if not isinstance(teller, Disk):
        raise BadValue("teller")
    if not is_row(disks) or not 1 <= len(disks) <= MOST_HOUSES:
        raise BadValue("disks")
    if not all([isinstance(disk, Disk) for disk in disks]):
        raise BadValue("disks")
    if any([house >= len(disks) for _, houses in yeses_of(teller) for house in houses]):
        raise Misfit("disks")


def due_of(teller):
    """The pairs (deal, house) of all yeses of the teller, ascending."""
    return sorted([(deal, house) for deal, houses in yeses_of(teller) for house in houses])


def quarrels_of(due, bearings):
    """The pairs (deal, house) about which the disks do not agree, ascending."""
    unborne = [pair for pair in due if not bears(bearings[pair[1]], pair[0])]
    undue = [
        (deal, house) for house, bearing in enumerate(bearings) for deal, words in bearing.words.items()
        if "yes" in words and (deal, house) not in due
    ]
    return sorted(unborne + undue)


def accord(teller, disks):
    """The Accord of the disks, or the Quarrel about the least deal and house."""
    want_disks(teller, disks)
    due = due_of(teller)
    bearings = [Bearing(disk) for disk in disks]
    quarrels = quarrels_of(due, bearings)
    if quarrels:
        return Quarrel(quarrels[0][0], quarrels[0][1])
    return Accord([(deal, house, word_for(bearings[house], deal)) for deal, house in due])
