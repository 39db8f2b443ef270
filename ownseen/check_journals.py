"""Whether what a disk keeps outlives every cut, and whether a paper about this is right."""

from ownseen.checks import is_integer, is_row
from ownseen.disks import cut_blocks, is_block, want_cut, want_disk
from ownseen.errors import BadLot, BadNumber, Misfit
from ownseen.journals import NO_HEAD, is_head, is_record, meaning_by, place_of, room_for, want_records
from ownseen.papers import Denial, Paper
from ownseen.plugs import lying


class Outlives(Paper):
    """For each block what may lie there; whatever is chosen of it, the base and the records are meant."""

    def __init__(self, contents):
        super().__init__("outlives", contents)
        self.contents = self.parts[0]


class Lost(Denial):
    """A cut behind which the base, or one of the records, is not meant."""

    def __init__(self, lands, torn):
        super().__init__("lost", lands, torn)
        self.lands = self.parts[0]
        self.torn = self.parts[1]


def version_at(block, place):
    """The version of the head in the block, 0 if it is none."""
    return block[0] if is_head(block, place) else 0


def head_choices(contents):
    """The pairs of each head that may count, and of what lies in block 0 and block 1 then."""
    rows = contents[:2]
    # A head counts beside what is least in the other block, if it counts at all.
    least = [min([(version_at(block, place), block) for block in row]) for place, row in enumerate(rows)]
    choices = []
    for place, row in enumerate(rows):
        other = least[1 - place]
        for block in row:
            if version_at(block, place) > other[0]:
                choices.append((block, {place: block, 1 - place: other[1]}))
    if least[0][0] == 0 and least[1][0] == 0:
        choices.append((NO_HEAD, {0: least[0][1], 1: least[1][1]}))
    return choices


def stray_record(row, head, number, record):
    """What may lie in the block of a record that is not this record, None if nothing else may."""
    for block in row:
        if not is_record(block, head[2], number) or block[3:] != record:
            return block
    return None


def losing_records(contents, head, records):
    """For some blocks what lies there when the head counts and some record is not meant, None if all are."""
    many = len(contents)
    if len(records) > room_for(many):
        return {}
    greatest = head[3]
    for number, record in enumerate(records):
        place = place_of(many, head[2], number)
        stray = stray_record(contents[place], head, number, record)
        if stray is not None:
            return {place: stray}
        lives = [block[1] for block in contents[place]]
        if min(lives) < greatest:
            # Nothing is left to choose for a cut: a block with a write that waits may be torn, and is a stray.
            return {}
        greatest = max(lives)
    return None


def losing_choice(contents, base, records):
    """For some blocks what lies there when the base, or some record, is not meant; None if they always are."""
    for head, choice in head_choices(contents):
        if head[4] != base:
            return choice
        found = losing_records(contents, head, records)
        if found is not None:
            return {**choice, **found}
    return None


def cut_for(disk, choice):
    """The Lost of a cut behind which just this lies in the blocks of the choice, and in the others what lay there."""
    lands = []
    torn = []
    for at, block in choice.items():
        writes = [number for number, write in enumerate(disk.cache) if write[0] == at]
        landing = [number for number in writes if disk.cache[number][1] == block]
        if block != disk.blocks[at]:
            if landing:
                lands.append(landing[0])
            else:
                torn.append(writes[0])
    return Lost(sorted(lands), sorted(torn))


def wanted(disk, base, records):
    """The records as tuples; raises the errors of all arguments."""
    want_disk(disk)
    if not is_integer(base):
        raise BadNumber("base")
    want_records(records)
    return [tuple(record) for record in records]


def outlives(disk, base, records):
    """The Outlives if behind each cut the base and the records are meant, otherwise a Lost."""
    rows = wanted(disk, base, records)
    contents = lying(disk)
    choice = losing_choice(contents, base, rows)
    return Outlives(contents) if choice is None else cut_for(disk, choice)


def are_contents(disk, value):
    """Whether any value has for each block some contents, among them all that may lie there."""
    if not is_row(value) or len(value) != disk.many:
        return False
    if not all([is_row(row) and all([is_block(block) for block in row]) for row in value]):
        return False
    told = [{block: True for block in row} for row in value]
    return all([block in told[at] for at, row in enumerate(lying(disk)) for block in row])


def is_losing(disk, base, records, value):
    """Whether the parts of a Lost are a cut behind which the base, or some record, is not meant."""
    try:
        want_cut(disk, value.lands, value.torn)
    except (BadLot, Misfit):
        return False
    _, told, kept = meaning_by(cut_blocks(disk, value.lands, value.torn))
    return told != base or kept[:len(records)] != tuple(records)


def shows_outlives(disk, base, records, value):
    """Whether it is a right paper of whether the base and the records outlive every cut."""
    rows = wanted(disk, base, records)
    if isinstance(value, Outlives):
        return are_contents(disk, value.contents) and losing_choice(value.contents, base, rows) is None
    return isinstance(value, Lost) and is_losing(disk, base, rows, value)
