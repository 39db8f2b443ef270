"""Plugs: what may lie on a disk behind a cut, while the disk itself stays as it is."""

from ownseen.disks import Disk, cut_blocks, want_cut, want_disk
from ownseen.errors import TooMany

MOST_WRITES = 5
LOST = 0
LANDS = 1
TORN = 2


def twin(disk):
    """Another disk with the same blocks, the same writes waiting, and as much of a fuse left."""
    want_disk(disk)
    other = Disk(disk.many)
    other.blocks = list(disk.blocks)
    other.reads = list(disk.reads)
    other.cache = list(disk.cache)
    other.left = disk.left
    return other


def behind(disk, lands, torn=()):
    """All blocks as they would lie behind this cut."""
    want_disk(disk)
    want_cut(disk, lands, torn)
    return tuple(cut_blocks(disk, lands, torn))


def fates_of(many):
    """All rows that have for each of so many writes what becomes of it, ascending."""
    rows = [()]
    for _ in range(many):
        rows = [row + (fate,) for row in rows for fate in (LOST, LANDS, TORN)]
    return rows


def numbers_with(row, fate):
    """The lot of the writes of this fate."""
    return tuple([number for number, one in enumerate(row) if one == fate])


def cuts_of(disk):
    """Yields all pairs (lands, torn) that cut takes, ascending by what becomes of each write."""
    want_disk(disk)
    if disk.waiting() > MOST_WRITES:
        raise TooMany("writes", MOST_WRITES)
    rows = fates_of(disk.waiting())
    for row in rows:
        yield (numbers_with(row, LANDS), numbers_with(row, TORN))


def lying(disk):
    """For each block the tuple of all that may lie there behind a cut, ascending."""
    contents = [[block] for block in disk.blocks]
    for at, block in disk.cache:
        contents[at].extend([block, ()])
    return tuple([tuple(sorted(set(told))) for told in contents])


def may_lie(disk):
    """For each block the tuple of all that may lie there behind a cut, ascending, each once."""
    want_disk(disk)
    return lying(disk)
