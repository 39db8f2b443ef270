"""What outlives every cut, held against a trial of every cut, and of every choice of contents."""

import random
import unittest
from itertools import product

from ownseen.check_journals import Lost, Outlives, outlives, shows_outlives
from ownseen.disks import Disk
from ownseen.errors import BadLog, BadNumber, BadValue, Out
from ownseen.journals import Journal
from ownseen.papers import Denial, Paper
from ownseen.plugs import behind, may_lie, twin

from tests.helper import NO_NUMBERS, NO_OBJECTS, SeenTest, bends, listed, strict
from tests.plain_disks import plain_cuts, plain_meaning, some_block, some_blocks
from tests.test_journals import NO_RECORD_ROWS, filled


def is_meant(blocks, base, records):
    """Whether the blocks mean the base and records that begin with these."""
    _, told, rows = plain_meaning(blocks)
    return told == base and rows[:len(records)] == tuple(map(tuple, records))


def outlives_all(disk, base, records):
    """Whether it is so behind each cut."""
    return all(is_meant(behind(disk, lands, torn), base, records) for lands, torn in plain_cuts(disk.waiting()))


def is_shown(disk, base, records, contents):
    """Whether contents, rows of blocks, have what may lie there, and all choices of them mean it."""
    if len(contents) != disk.many or any(block not in row for row, told in zip(contents, may_lie(disk)) for block in told):
        return False
    return is_plain_choice(contents, base, records)


def is_plain_choice(contents, base, records):
    """Whether all choices of the contents mean it."""
    return all(is_meant(blocks, base, records) for blocks in product(*contents))


def some_written(dice):
    """A disk with a journal, or with anything, on which some writes wait; and a base and records to ask for."""
    many = dice.choice((4, 5, 6, 8))
    if dice.random() < 0.75:
        disk = Disk(many)
        for _ in range(dice.randint(1, 3)):
            journal = Journal(disk)
            for _ in range(dice.randint(0, 4)):
                word = dice.choice(("put", "put", "force", "sweep"))
                if word == "put" and journal.room:
                    journal.put([dice.randint(0, 2)] * dice.randint(0, 2))
                elif word == "sweep":
                    journal.sweep(dice.randint(0, 1), [[1]] * dice.randint(0, 1))
                else:
                    journal.force()
            if dice.random() < 0.4:
                disk.cut(())
        base, records = journal.base, list(journal.records())
        if dice.random() < 0.5:
            # Stopped in the midst of a sweep.
            disk.fuse(dice.randint(1, 5))
            try:
                journal.sweep(base + dice.randint(0, 1), records[:1])
            except Out:
                pass
            disk.no_fuse()
    else:
        disk = filled(some_blocks(dice, many))
        _, base, records = plain_meaning(disk.kept())
    for _ in range(dice.choice((0, 0, 1, 3))):
        at = dice.randrange(many)
        block = dice.choice((some_block(dice, many), disk.look(at), disk.look(at)[:-1]))
        disk.write(at, block)
    while disk.waiting() > 5:
        disk.cut(list(range(disk.waiting()))[1::2])
    records = list(records)[:dice.choice((0, 1, 2, 9))]
    if dice.random() < 0.15:
        records.append((1,))
    return disk, base + (dice.random() < 0.1), records


class OutlivesTest(SeenTest):
    def test_against_all_cuts(self):
        counts = {}
        for seed in range(900):
            disk, base, records = some_written(random.Random(seed))
            before, wanted = (disk.kept(), disk.waiting()), outlives_all(disk, base, records)
            told = outlives(disk, base, records)
            self.assertIs(bool(told), wanted)
            self.assertEqual(told, outlives(twin(disk), base=base, records=tuple(map(tuple, records))))
            if wanted:
                self.assertEqual(strict(told.contents), strict(may_lie(disk)))
                self.assertEqual(told, Outlives(may_lie(disk)))
            else:
                self.assertIs(type(told), Lost)
                self.assertFalse(is_meant(behind(disk, told.lands, told.torn), base, records))
            self.assertIs(shows_outlives(disk, base, records, told), True)
            self.assertIs(shows_outlives(disk, base, records, type(told)(*listed(told.parts))), True)
            self.assertEqual((disk.kept(), disk.waiting()), before)
            place = (wanted, len(records), disk.waiting() > 0)
            counts[place] = counts.get(place, 0) + 1
        for place in ((True, 0, True), (True, 1, True), (True, 2, True), (False, 0, True), (False, 1, True), (False, 2, True), (False, 1, False)):
            self.assertGreater(counts.get(place, 0), 4, (place, counts))

    def test_each_lost(self):
        fine = 0
        for seed in range(120):
            disk, base, records = some_written(random.Random(seed))
            for lands, torn in plain_cuts(disk.waiting())[:40]:
                wanted = not is_meant(behind(disk, lands, torn), base, records)
                self.assertIs(shows_outlives(disk, base, records, Lost(list(lands), torn)), wanted)
                fine += wanted
            for lands, torn in (([disk.waiting()], []), ([0], [0]), (None, []), ([], None), ([1, 0], []), ([True], []), ([], [False])):
                self.assertIs(shows_outlives(disk, base, records, Lost(lands, torn)), False)
        self.assertGreater(fine, 100)

    def test_contents_against_all_choices(self):
        counts = {}
        for seed in range(500):
            dice = random.Random(seed)
            disk, base, records = some_written(dice)
            if disk.many > 6:
                continue
            contents = [list(row) for row in may_lie(disk)]
            for _ in range(dice.randint(0, 3)):
                at = dice.randrange(disk.many)
                more = dice.choice((some_block(dice, disk.many), disk.look(at), (), disk.look(at)[:1] + (9,) + disk.look(at)[2:]))
                contents[at].insert(dice.randint(0, len(contents[at])), more)
            if dice.random() < 0.15:
                contents[dice.randrange(disk.many)].pop()
            wanted = is_shown(disk, base, records, contents)
            self.assertIs(shows_outlives(disk, base, records, Outlives(contents)), wanted)
            counts[wanted] = counts.get(wanted, 0) + 1
        self.assertGreater(min(counts[True], counts[False]), 60, counts)

    def test_bent_papers(self):
        disk = Disk(4)
        journal = Journal(disk)
        journal.put([5])
        journal.force()
        disk.write(3, [7])
        right = outlives(disk, 0, [[5]])
        for value in bends(listed(right.contents)):
            wanted = isinstance(value, list) and all(
                isinstance(row, (list, tuple)) and all(
                    isinstance(block, (list, tuple)) and len(block) < 9 and all(type(one) is int for one in block) for block in row
                ) for row in value
            ) and is_shown(disk, 0, [[5]], [[tuple(block) for block in row] for row in value])
            self.assertIs(shows_outlives(disk, 0, [[5]], Outlives(value)), wanted, value)
        self.assertIs(shows_outlives(disk, 0, [[5]], Outlives([[row[0]] * 300 for row in right.contents[:3]] + [[(), (7,)] * 150])), True)

    def test_lives_that_may_fall(self):
        contents = [[()], [(1, 0, 0, 0, 0)], [(0, 0, 0), (0, 3, 0)], [(0, 2, 1), (0, 5, 1)], [()], [()]]
        disk = filled([row[0] for row in contents])
        self.assertIs(shows_outlives(disk, 0, [[]], Outlives(contents)), True)
        self.assertIs(shows_outlives(disk, 0, [[], []], Outlives(contents)), False)
        contents[3] = [(0, 3, 1), (0, 5, 1), (0, 2, 1)][:2]
        disk = filled([row[0] for row in contents])
        self.assertIs(shows_outlives(disk, 0, [[], []], Outlives(contents)), True)

    def test_lives_that_fall_on_the_disk(self):
        for lives, many in (((1, 2), 2), ((2, 2), 2), ((3, 2), 1), ((0, 3), 0)):
            disk = filled([(2, 6, 0, 1, 0), (), *[(0, life, k) for k, life in enumerate(lives)], (), (), (), ()])
            disk.write(5, [1])
            for wanted in range(3):
                told = outlives(disk, 0, [[]] * wanted)
                self.assertIs(bool(told), wanted <= many)
                self.assertIs(shows_outlives(disk, 0, [[]] * wanted, told), True)

    def test_no_other_paper(self):
        disk = Disk(4)
        for value in (None, True, (), Paper("outlives", may_lie(disk)), Denial("lost", (), ()), Lost([], []), Outlives, may_lie(disk)):
            self.assertIs(shows_outlives(disk, 0, [], value), False)
        self.assertIs(shows_outlives(disk=disk, base=0, records=(), value=Outlives(may_lie(disk))), True)
        self.assertIs(shows_outlives(disk, 1, [], Lost([], [])), True)
        self.assertIs(bool(outlives(disk, 0, [[]] * 2)), False)

    def test_errors(self):
        faults = [("disk", NO_OBJECTS, BadValue("disk")), ("base", NO_NUMBERS, BadNumber("base")), ("records", NO_RECORD_ROWS, BadLog("records"))]
        self.assert_faults(outlives, {"disk": Disk(4), "base": 0, "records": []}, faults)
        self.assert_faults(shows_outlives, {"disk": Disk(4), "base": 0, "records": [], "value": None}, faults)

    def test_at_the_greatest_size(self):
        journal = Journal(Disk(128))
        while journal.room:
            journal.put([10 ** 59] * 5)
        for _ in range(5000):
            journal.disk.write(2, journal.disk.look(2))
        self.assertFalse(self.assert_short(outlives, journal.disk, 0, journal.records()))
        journal.force()
        for _ in range(5000):
            journal.disk.write(127, [1])
        told = self.assert_short(outlives, journal.disk, 0, journal.records())
        self.assertTrue(told)
        self.assertTrue(self.assert_short(shows_outlives, journal.disk, 0, journal.records(), told))


if __name__ == "__main__":
    unittest.main()
