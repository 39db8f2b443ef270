"""Whether a value is a right paper about disks that are in accord, or are not."""

from ownseen.accords import Accord, Bearing, Quarrel, accord, due_of, quarrels_of, want_disks
from ownseen.checks import are_pairs, is_row


def are_accord_rows(value):
    """Whether any value has rows of three that begin with two integers; True and False are none here."""
    if not is_row(value) or not all([is_row(row) and len(row) == 3 for row in value]):
        return False
    return are_pairs([row[:2] for row in value])


def shows_accord(teller, disks, value):
    """Whether it is a right paper of whether the disks are in accord."""
    want_disks(teller, disks)
    if isinstance(value, Accord):
        return are_accord_rows(value.rows) and accord(teller, disks) == value
    if not isinstance(value, Quarrel):
        return False
    pair = (value.deal, value.house)
    bearings = [Bearing(disk) for disk in disks]
    return are_pairs([pair]) and pair in quarrels_of(due_of(teller), bearings)
