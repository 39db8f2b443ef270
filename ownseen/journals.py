"""Journals: records on a disk that outlive every cut once they are sure."""

from ownseen.checks import are_integers, is_integer, is_row
from ownseen.disks import LEAST_BLOCKS, MOST_BLOCKS, is_block, want_disk
from ownseen.errors import BadDisk, BadLog, BadNumber, Full

MOST_PARTS = 5
NO_HEAD = (0, 0, 0, 0, 0)


def room_for(many):
    """The room of a disk of so many blocks."""
    return many // 2 - 1


def is_head(block, place):
    """Whether a block is a head in the block of this number."""
    return len(block) == len(NO_HEAD) and block[0] >= 1 and min(block[1:4]) >= 0 and block[0] & 1 == place


def head_of(blocks):
    """The head (version, life, generation, since, base) that counts."""
    heads = [block for place, block in enumerate(blocks[:2]) if is_head(block, place)]
    # Heads of both blocks have unlike versions, so the greater tuple has the greater one.
    return max(heads) if heads else NO_HEAD


def place_of(many, generation, number):
    """The block in which the record of this number is looked for, of so many blocks."""
    return 2 + number + (room_for(many) if generation & 1 else 0)


def is_record(block, generation, number):
    """Whether in a block the record of this number stands."""
    return len(block) >= 3 and block[0] == generation and block[2] == number


def records_behind(blocks, head):
    """The records that stand with the generation of the head, as long as their lives do not fall."""
    _, _, generation, life, _ = head
    records = []
    for number in range(room_for(len(blocks))):
        block = blocks[place_of(len(blocks), generation, number)]
        if not is_record(block, generation, number) or block[1] < life:
            break
        life = block[1]
        records.append(block[3:])
    return tuple(records)


def meaning_by(blocks):
    """The triple (life, base, records) that right blocks, tuples, mean."""
    head = head_of(blocks)
    return (head[1], head[4], records_behind(blocks, head))


def meaning_of(blocks):
    """The triple (life, base, records) that blocks mean."""
    if not is_row(blocks) or not LEAST_BLOCKS <= len(blocks) <= MOST_BLOCKS:
        raise BadDisk("blocks")
    if not all([is_block(block) for block in blocks]):
        raise BadDisk("blocks")
    return meaning_by([tuple(block) for block in blocks])


def meant(disk):
    """The triple (life, base, records) that a disk means as it lies."""
    want_disk(disk)
    return meaning_by(disk.kept())


def is_journal_record(value):
    """Whether any value may be put into a journal."""
    return are_integers(value) and len(value) <= MOST_PARTS


def want_records(records):
    """Raises BadLog for what is no row of records."""
    if not is_row(records) or not all([is_journal_record(record) for record in records]):
        raise BadLog("records")


class Journal:
    """A journal that came up on a disk; rows are its records."""

    def __init__(self, disk):
        want_disk(disk)
        blocks = [disk.look(at) for at in range(disk.many)]
        head = head_of(blocks)
        self.disk = disk
        self.version = head[0]
        self.life = head[1] + 1
        self.write_head(head[2], head[3], head[4], records_behind(blocks, head))

    def write_head(self, generation, since, base, records):
        """Writes the next head, and flushes: from then on just these records are meant, and sure."""
        version = self.version + 1
        self.disk.write(version & 1, (version, self.life, generation, since, base))
        self.disk.flush()
        self.version = version
        self.generation = generation
        self.base = base
        self.rows = [tuple(record) for record in records]
        self.sure = len(self.rows)

    @property
    def room(self):
        """How many more records may be put."""
        return room_for(self.disk.many) - len(self.rows)

    def records(self):
        """All records."""
        return tuple(self.rows)

    def write_record(self, generation, number, record):
        """Writes a record to its block."""
        self.disk.write(place_of(self.disk.many, generation, number), (generation, self.life, number, *record))

    def put(self, record):
        """Writes one record more; it is not sure yet."""
        if not is_journal_record(record):
            raise BadNumber("record")
        if self.room == 0:
            raise Full("journal")
        self.write_record(self.generation, len(self.rows), record)
        self.rows.append(tuple(record))

    def force(self):
        """Makes all records sure."""
        self.disk.flush()
        self.sure = len(self.rows)

    def sweep(self, base, records=()):
        """Puts a new base, and perhaps some first records, in the place of all that was."""
        if not is_integer(base):
            raise BadNumber("base")
        want_records(records)
        if len(records) > room_for(self.disk.many):
            raise Full("journal")
        generation = self.generation + 1
        for number, record in enumerate(records):
            self.write_record(generation, number, record)
        self.disk.flush()
        self.write_head(generation, self.life, base, records)
