"""Disks: blocks that are written, flushed, and cut off from what waits."""

from ownseen.checks import are_integers, is_lot
from ownseen.errors import BadLot, BadNumber, BadValue, Misfit, Out
from ownseen.guards import want_number, want_within

LEAST_BLOCKS = 4
MOST_BLOCKS = 128
MOST_NUMBERS = 8


def is_block(value):
    """Whether any value may be written to a block."""
    return are_integers(value) and len(value) <= MOST_NUMBERS


def want_cut(disk, lands, torn):
    """Raises BadLot, Misfit for what is no cut of the disk."""
    many = disk.waiting()
    if not is_lot(lands, many):
        raise BadLot("lands")
    if not is_lot(torn, many):
        raise BadLot("torn")
    landing = set(lands)
    if any([number in landing for number in torn]):
        raise Misfit("torn")


def cut_blocks(disk, lands, torn):
    """The blocks as they lie behind a cut."""
    blocks = list(disk.blocks)
    landing = set(lands)
    tearing = set(torn)
    for number, (at, block) in enumerate(disk.cache):
        if number in landing:
            blocks[at] = block
        elif number in tearing:
            blocks[at] = ()
    return blocks


class Disk:
    """A disk; beside what is told, blocks are as they lie, reads as they read, and cache has what waits.

    Left tells how many writes and flushes go through until the fuse blows, None without one.
    """

    def __init__(self, many):
        want_within(many, LEAST_BLOCKS, MOST_BLOCKS, "many")
        self.many = many
        self.blocks = [() for _ in range(many)]
        self.reads = list(self.blocks)
        self.cache = []
        self.left = None

    def spend(self):
        """Counts a write or a flush for the fuse; raises Out when it blows."""
        if self.left == 0:
            raise Out()
        if self.left is not None:
            self.left -= 1

    def write(self, at, block):
        """Writes the block; it waits."""
        want_number(at, self.many, "at")
        if not is_block(block):
            raise BadNumber("block")
        self.spend()
        self.cache.append((at, tuple(block)))
        self.reads[at] = tuple(block)

    def flush(self):
        """Lets all that waits land."""
        self.spend()
        self.blocks = list(self.reads)
        self.cache = []

    def cut(self, lands, torn=()):
        """Pulls the plug: of the writes that wait these land, those are torn, all others are lost."""
        want_cut(self, lands, torn)
        self.blocks = cut_blocks(self, lands, torn)
        self.reads = list(self.blocks)
        self.cache = []
        self.left = None

    def fuse(self, many):
        """From the write or flush of this number on, all raise Out."""
        want_within(many, 1, None, "many")
        self.left = many - 1

    def no_fuse(self):
        """Takes the fuse out."""
        self.left = None

    def waiting(self):
        """How many writes wait."""
        return len(self.cache)

    def look(self, at):
        """What the block reads as."""
        want_number(at, self.many, "at")
        return self.reads[at]

    def kept(self):
        """All blocks as they lie, without what waits."""
        return tuple(self.blocks)


def want_disk(disk):
    """Raises BadValue for what is no disk."""
    if not isinstance(disk, Disk):
        raise BadValue("disk")
