"""Disks and journals as the document's words tell them, and disks made in many ways.

A plain disk keeps all that ever happened to it, and looks along it; nothing here is shared with the package.
"""

from itertools import product


class PlainDisk:
    """A disk that only keeps what happened: rows (at, block, fate), the fate of a write that waits being None."""

    def __init__(self, many):
        self.many, self.rows, self.fused = many, [], None

    def stopped(self):
        """Whether the next write or flush is stopped by the fuse; it counts for the fuse."""
        if self.fused is None:
            return False
        self.fused -= 1
        return self.fused < 0

    def write(self, at, block):
        if self.stopped():
            return "out"
        self.rows.append([at, tuple(block), None])
        return None

    def flush(self):
        if self.stopped():
            return "out"
        for row in self.rows:
            row[2] = row[2] or "lands"
        return None

    def cut(self, lands, torn=()):
        waiting = [row for row in self.rows if row[2] is None]
        for number, row in enumerate(waiting):
            row[2] = "lands" if number in lands else "torn" if number in torn else "lost"
        self.fused = None

    def fuse(self, many):
        self.fused = many - 1 + 0

    def no_fuse(self):
        self.fused = None

    def waiting(self):
        return len([row for row in self.rows if row[2] is None])

    def block(self, at, fates):
        told = [() if fate == "torn" else block for place, block, fate in self.rows if place == at and fate in fates]
        return told[-1] if told else ()

    def look(self, at):
        return self.block(at, ("lands", "torn", None))

    def kept(self):
        return tuple(self.block(at, ("lands", "torn")) for at in range(self.many))


def plain_cuts(many):
    """All pairs (lands, torn) of so many writes, by the rows of what becomes of each."""
    return [
        (tuple(k for k in range(many) if row[k] == 1), tuple(k for k in range(many) if row[k] == 2))
        for row in product((0, 1, 2), repeat=many)
    ]


def plain_head(blocks):
    """The head that counts."""
    told = (0, 0, 0, 0, 0)
    for place in (0, 1):
        block = blocks[place]
        if len(block) == 5 and block[0] > 0 and block[0] % 2 == place and all(part >= 0 for part in block[1:4]):
            if block[0] > told[0]:
                told = block
    return tuple(told)


def plain_meaning(blocks):
    """What blocks mean: life, base, records."""
    version, life, generation, since, base = plain_head(blocks)
    room = (len(blocks) - 2) // 2
    records, lives = [], [since]
    for k in range(room):
        block = blocks[2 + k + room * (generation % 2)]
        if len(block) < 3 or block[0] != generation or block[2] != k or block[1] < lives[-1]:
            break
        lives.append(block[1])
        records.append(tuple(block[3:]))
    return (life, base, tuple(records))


def some_block(dice, many):
    """What may lie in a block: a head, a record, or anything."""
    small = lambda: dice.choice((0, 0, 1, 1, 2, 2, 3, -1, 4))
    shape = dice.random()
    if shape < 0.35:
        return (small(), small(), small(), small(), small())
    if shape < 0.85:
        room = many // 2 - 1
        return (small(), small(), dice.randrange(max(room, 1))) + tuple(small() for _ in range(dice.choice((0, 1, 1, 2, 5))))
    return tuple(small() for _ in range(dice.randint(0, 8)))


def some_blocks(dice, many):
    """Blocks that mean something now and then: heads, and rows of records with few strays."""
    blocks = [()] * many
    for place in (0, 1):
        if dice.random() < 0.8:
            version = dice.randint(0, 5) * 2 + (place if dice.random() < 0.85 else 1 - place)
            blocks[place] = (version, dice.randint(0, 3), dice.randint(0, 2), dice.randint(0, 2), dice.randint(-2, 3))
            if dice.random() < 0.1:
                blocks[place] = dice.choice((blocks[place][:4], blocks[place] + (0,), blocks[place][:2] + (-1,) + blocks[place][3:]))
    room = many // 2 - 1
    for generation in (0, 1):
        life = dice.randint(0, 2)
        for k in range(room):
            life += dice.choice((0, 0, 0, 1)) - (dice.random() < 0.05)
            record = tuple(dice.randint(-3, 3) for _ in range(dice.randint(0, 5)))
            blocks[2 + k + generation * room] = (generation + 2 * (dice.random() < 0.1), life, k) + record
            if dice.random() < 0.1:
                blocks[2 + k + generation * room] = some_block(dice, many)
    return blocks


class PlainJournal:
    """A journal that is only told by the rows of what it puts; each deed is a list of writes and flushes."""

    def __init__(self, blocks):
        version, life, generation, since, base = plain_head(blocks)
        self.room = (len(blocks) - 2) // 2
        self.rows = list(plain_meaning(blocks)[2])
        self.head = [version, life + 1, generation, since, base]

    def next_head(self):
        self.head[0] += 1
        return ("write", self.head[0] % 2, tuple(self.head))

    def come_up(self):
        return [self.next_head(), ("flush",)]

    def record(self, k, record, generation):
        return ("write", 2 + k + self.room * (generation % 2), (generation, self.head[1], k) + tuple(record))

    def put(self, record):
        self.rows.append(tuple(record))
        return [self.record(len(self.rows) - 1, record, self.head[2])]

    def sweep(self, base, records):
        generation = self.head[2] + 1
        deeds = [self.record(k, record, generation) for k, record in enumerate(records)] + [("flush",)]
        self.head[2:] = [generation, self.head[1], base]
        self.rows = [tuple(record) for record in records]
        return deeds + [self.next_head(), ("flush",)]
