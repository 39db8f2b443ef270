"""Journals: what blocks mean, what a journal does block by block, and what outlives every cut."""

import random
import unittest

from ownseen.disks import Disk
from ownseen.errors import BadDisk, BadLog, BadNumber, BadValue, Full, Out
from ownseen.journals import Journal, meaning_of, meant
from ownseen.plugs import cuts_of, twin

from tests.helper import NO_NUMBERS, NO_OBJECTS, NO_ROWS, SeenTest, strict
from tests.plain_disks import PlainJournal, plain_head, plain_meaning, some_block, some_blocks

NO_RECORDS = NO_ROWS + ([1] * 6, (True,), [None], ["1"], [[1]], [1.0])
NO_RECORD_ROWS = NO_ROWS + tuple([record] for record in NO_RECORDS) + ([[1], [True]], [[1] * 6], [1], [[1], 2])


def filled(blocks):
    """A disk on which just this lies."""
    disk = Disk(len(blocks))
    for at, block in enumerate(blocks):
        disk.write(at, block)
    disk.flush()
    return disk


def state_of(journal):
    return (journal.life, journal.base, journal.records(), journal.sure, journal.room)


class MeaningTest(SeenTest):
    def test_blocks_of_any_content(self):
        counts = {}
        for seed in range(3000):
            dice = random.Random(seed)
            many = dice.choice((4, 5, 6, 7, 8, 9, 11))
            blocks = some_blocks(dice, many) if seed % 4 else [some_block(dice, many) for _ in range(many)]
            wanted = plain_meaning(blocks)
            self.assertEqual(strict(meaning_of(blocks)), strict(wanted))
            self.assertEqual(meaning_of(blocks=tuple(list(block) for block in blocks)), wanted)
            self.assertEqual(meant(filled(blocks)), wanted)
            place = (len(wanted[2]), plain_head(blocks)[0] > 0)
            counts[place] = counts.get(place, 0) + 1
        for place in ((0, False), (0, True), (1, True), (2, True), (3, True), (1, False), (2, False)):
            self.assertGreater(counts.get(place, 0), 5, (place, counts))

    def test_a_journal_takes_what_the_blocks_mean(self):
        for seed in range(300):
            dice = random.Random(seed)
            blocks = some_blocks(dice, dice.choice((4, 6, 7, 10)))
            disk, head, wanted = filled(blocks), plain_head(blocks), plain_meaning(blocks)
            journal = Journal(disk)
            self.assertEqual(state_of(journal), (
                wanted[0] + 1, wanted[1], wanted[2], len(wanted[2]), (disk.many - 2) // 2 - len(wanted[2])))
            version = head[0] + 1
            blocks[version % 2] = (version, head[1] + 1, head[2], head[3], head[4])
            self.assertEqual(disk.kept(), tuple(blocks))
            self.assertEqual(disk.waiting(), 0)

    def test_what_waits_counts_when_it_comes_up(self):
        disk = Disk(6)
        disk.write(1, (1, 3, 0, 0, 8))
        disk.write(2, (0, 3, 0, 5))
        self.assertEqual(meant(disk), (0, 0, ()))
        self.assertEqual(state_of(Journal(disk=disk)), (4, 8, ((5,),), 1, 1))
        self.assertEqual(meant(disk), (4, 8, ((5,),)))

    def test_numbers_at_their_edges(self):
        for block, wanted in (
            ((1, 0, 0, 0, 0), True), ((0, 9, 0, 0, 7), False), ((-1, 9, 0, 0, 7), False), ((1, -1, 0, 0, 7), False),
            ((1, 9, -1, 0, 7), False), ((1, 9, 0, -1, 7), False), ((1, 9, 0, 0), False), ((1, 9, 0, 0, 7, 7), False),
            ((2, 9, 0, 0, 7), False), ((3, 9, 0, 0, -7), True), ((10 ** 59 + 1, 9, 0, 0, 7), True),
        ):
            self.assertEqual(meaning_of([(), block, (), ()]), (block[1], block[4], ()) if wanted else (0, 0, ()))
            self.assertEqual(meaning_of([block, (2,), (), ()]), (0, 0, ()) if block[0] != 2 else (9, 7, ()))
        self.assertEqual(meaning_of([(4, 1, 0, 0, 4), (3, 2, 0, 0, 3), (0, 0, 0), ()]), (1, 4, ((),)))
        self.assertEqual(meaning_of([(2, 1, 0, 0, 4), (3, 2, 0, 0, 3), (0, 0, 1), ()]), (2, 3, ()))

    def test_errors(self):
        short, long = [[]] * 3, [[]] * 129
        for value in NO_ROWS + (short, long, [[]] * 3 + [None], [[]] * 3 + [[1] * 9], [[True]] + [[]] * 4, [0] * 4, [["1"]] * 4, "abcd"):
            self.assert_raises(BadDisk("blocks"), meaning_of, value)
        self.assertEqual((meaning_of([[]] * 4), meaning_of([()] * 128)), ((0, 0, ()), (0, 0, ())))
        for value in NO_OBJECTS + (Journal(Disk(4)), Disk):
            for function in (Journal, meant):
                self.assert_raises(BadValue("disk"), function, value)


def done(disk, deeds):
    for deed in deeds:
        getattr(disk, deed[0])(*deed[1:])


def some_records(dice, many):
    return [[dice.randint(-9, 9) for _ in range(dice.randint(0, 5))] for _ in range(many)]


class JournalTest(SeenTest):
    def test_every_write_and_flush(self):
        for seed in range(120):
            dice = random.Random(seed)
            many = dice.choice((4, 5, 6, 8, 12))
            disk, other = Disk(many), Disk(many)
            for _ in range(dice.randint(1, 4)):
                plain = PlainJournal([other.look(at) for at in range(many)])
                done(other, plain.come_up())
                journal = Journal(disk)
                sure = len(plain.rows)
                for _ in range(dice.randint(0, 10)):
                    word = dice.choice(("put", "put", "put", "force", "sweep"))
                    if word == "put":
                        record = some_records(dice, 1)[0]
                        if len(plain.rows) == plain.room:
                            self.assert_raises(Full("journal"), journal.put, record)
                            continue
                        self.assertIsNone(journal.put(record))
                        done(other, plain.put(record))
                    elif word == "force":
                        self.assertIsNone(journal.force())
                        other.flush()
                        sure = len(plain.rows)
                    else:
                        base, records = dice.randint(-9, 9), some_records(dice, dice.randint(0, plain.room))
                        self.assertIsNone(journal.sweep(base, records))
                        done(other, plain.sweep(base, records))
                        sure = len(records)
                    self.assertEqual(state_of(journal), (plain.head[1], plain.head[4], tuple(plain.rows), sure, plain.room - len(plain.rows)))
                    self.assertEqual((disk.kept(), disk.waiting()), (other.kept(), other.waiting()))
                    self.assertEqual([disk.look(at) for at in range(many)], [other.look(at) for at in range(many)])
                if dice.random() < 0.7 and disk.waiting() < 6:
                    lands, torn = dice.choice(list(cuts_of(disk)))
                    disk.cut(lands, torn)
                    other.cut(lands, torn)

    def test_rooms(self):
        for many in (4, 5, 6, 7, 64, 127, 128):
            room = (many - 2) // 2
            journal = Journal(Disk(many))
            self.assertEqual(journal.room, room)
            for number in range(room):
                journal.put([number])
            self.assert_raises(Full("journal"), journal.put, [0])
            self.assert_raises(Full("journal"), journal.sweep, 0, [[]] * (room + 1))
            self.assertEqual(journal.records(), tuple((number,) for number in range(room)))
            journal.sweep(base=3, records=[[number] for number in range(room)])
            self.assertEqual((journal.room, journal.sure, journal.base), (0, room, 3))
            journal.sweep(-5)
            self.assertEqual((state_of(journal), meant(journal.disk)), ((1, -5, (), 0, room), (1, -5, ())))

    def test_the_disk_itself_is_kept(self):
        disk = Disk(6)
        self.assertIs(Journal(disk).disk, disk)

    def test_what_is_passed_is_not_kept(self):
        journal, record, rows = Journal(Disk(8)), [1], [[1], [2]]
        journal.put(record)
        record.append(2)
        self.assertEqual(strict(journal.records()), strict(((1,),)))
        journal.sweep(0, rows)
        rows[0].append(3)
        rows.clear()
        self.assertEqual(journal.records(), ((1,), (2,)))
        self.assertTrue(all(type(row) is tuple for row in journal.records()))

    def test_errors(self):
        journal = Journal(Disk(6))
        journal.put([7])
        before = (state_of(journal), journal.disk.kept(), journal.disk.waiting())
        for record in NO_RECORDS:
            self.assert_raises(BadNumber("record"), journal.put, record)
        for base in NO_NUMBERS:
            self.assert_raises(BadNumber("base"), journal.sweep, base, None)
            self.assert_raises(BadNumber("base"), journal.sweep, base=base)
        for rows in NO_RECORD_ROWS:
            self.assert_raises(BadLog("records"), journal.sweep, 0, rows)
        self.assert_raises(BadLog("records"), journal.sweep, 0, [[1]] * 9 + [None])
        self.assertEqual((state_of(journal), journal.disk.kept(), journal.disk.waiting()), before)
        journal.put(record=())
        self.assert_raises(BadNumber("record"), journal.put, None)
        journal.disk.fuse(1)
        self.assert_raises(BadNumber("record"), journal.put, None)
        self.assert_raises(Full("journal"), journal.put, [1])
        self.assert_raises(BadLog("records"), journal.sweep, 0, None)
        self.assert_raises(Full("journal"), journal.sweep, 0, [[1]] * 3)
        self.assert_raises(Out(), journal.force)

    def test_out(self):
        journal = Journal(Disk(8))
        journal.put([1])
        journal.disk.fuse(1)
        self.assert_raises(Out(), journal.put, [2])
        self.assertEqual((journal.records(), journal.disk.waiting()), (((1,),), 1))
        disk = Disk(8)
        for left in (1, 2):
            disk.fuse(left)
            self.assert_raises(Out(), Journal, disk)
            self.assertEqual(meant(disk), (0, 0, ()))
            disk.cut(())
        for left in range(1, 6):
            journal = Journal(Disk(8))
            journal.put([7])
            journal.disk.fuse(left)
            self.assert_raises(Out(), journal.sweep, 4, [[1], [2]])
            self.assertEqual(journal.disk.waiting(), {1: 1, 2: 2, 3: 3, 4: 0, 5: 1}[left])

    def test_at_the_greatest_size(self):
        def long_run():
            disk = Disk(128)
            for _ in range(8):
                journal = Journal(disk)
                while journal.room:
                    journal.put([10 ** 59] * 5)
                    journal.force()
                journal.sweep(0, journal.records()[:40])
            return meant(disk)
        self.assertEqual(self.assert_short(long_run)[0], 8)


class LastingTest(SeenTest):
    """The plug is pulled everywhere; behind each cut of what waits the document's promise is looked at."""

    def assert_lasting(self, disk, lives, bases, sure, records):
        """Behind each cut a life, a base and records that may be meant; rows (base, sure, records)."""
        if disk.waiting() > 5:
            disk = twin(disk)
            disk.cut(list(range(disk.waiting() - 4)))
        for lands, torn in cuts_of(disk):
            other = twin(disk)
            other.cut(lands, torn)
            life, base, told = meant(other)
            fine = [
                one for one, few, rows in zip(bases, sure, records)
                if base == one and told == rows[:len(told)] and len(told) >= few
            ]
            self.assertTrue(fine and life in lives, (life, base, told, bases, sure, records))
            self.assertGreater(Journal(other).life, life)

    def stopped(self, disk, left, function, *given):
        """Whether a fuse stops the deed."""
        disk.fuse(left)
        try:
            function(*given)
        except Out:
            disk.no_fuse()
            return True
        disk.no_fuse()
        return False

    def ways_to_a_disk(self):
        """Disks with what a journal on them has done: some puts, a force among them, perhaps a sweep."""
        for many in (4, 6, 9, 128):
            for swept in (False, True):
                for forced in (0, 1, 2):
                    disk = Disk(many)
                    journal = Journal(disk)
                    if swept:
                        journal.sweep(4, [[8]])
                    for number in range(min(journal.room, 4)):
                        journal.put([number, forced])
                        if number + 1 == forced:
                            journal.force()
                    yield journal

    def test_puts_and_forces(self):
        for journal in self.ways_to_a_disk():
            rows = journal.records()
            self.assert_lasting(journal.disk, [journal.life], [journal.base], [journal.sure], [rows])
            for left in (1, 2):
                other = twin(journal.disk)
                self.assertIs(self.stopped(other, left, other.flush), left == 1)
                self.assert_lasting(other, [journal.life], [journal.base], [journal.sure if left == 1 else len(rows)], [rows])

    def test_coming_up(self):
        for journal in self.ways_to_a_disk():
            rows, lives = journal.records(), [journal.life, journal.life + 1]
            for left in (1, 2, 3):
                disk = twin(journal.disk)
                self.assertIs(self.stopped(disk, left, Journal, disk), left < 3)
                sure = len(rows) if left == 3 else journal.sure
                self.assert_lasting(disk, lives[-1:] if left == 3 else lives, [journal.base], [sure], [rows])
                for again in (1, 2, 3):
                    other = twin(disk)
                    if other.waiting() < 6:
                        lands, torn = random.Random(again + left).choice(list(cuts_of(other)))
                        other.cut(lands, torn)
                    first = meant(other)
                    self.stopped(other, again, Journal, other)
                    self.assert_lasting(other, [first[0], first[0] + 1], [first[1]], [len(first[2])], [first[2]])

    def test_sweeps(self):
        for first in ((), ([5],), ([5], [6])):
            for number in range(len(list(self.ways_to_a_disk()))):
                for left in range(1, 7):
                    journal = list(self.ways_to_a_disk())[number]
                    if len(first) > journal.disk.many // 2 - 1:
                        continue
                    life, base, sure, rows = journal.life, journal.base, journal.sure, journal.records()
                    stopped = self.stopped(journal.disk, left, journal.sweep, 9, first)
                    self.assertIs(stopped, left < len(first) + 4)
                    new = tuple(map(tuple, first))
                    if stopped:
                        self.assert_lasting(journal.disk, [life], [base, 9], [sure, len(new)], [rows, new])
                    else:
                        self.assert_lasting(journal.disk, [life], [9], [len(new)], [new])

    def test_what_was_lost_never_comes_back(self):
        lost_ones = 0
        for seed in range(400):
            dice = random.Random(seed)
            disk, told, number = Disk(dice.choice((6, 8, 10))), (), 0
            lives = [0]
            for _ in range(7):
                journal = Journal(disk)
                self.assertGreater(journal.life, max(lives))
                lives.append(journal.life)
                self.assertEqual(journal.records(), told)
                stopped = False
                for _ in range(dice.randint(0, 6)):
                    if journal.room and dice.random() < 0.7:
                        number += 1
                        journal.put([number])
                    elif dice.random() < 0.5:
                        journal.force()
                    else:
                        first = [[number, k] for k in range(dice.randint(0, 2))]
                        if dice.random() < 0.5:
                            stopped = self.stopped(disk, dice.randint(1, 5), journal.sweep, number, first)
                        else:
                            journal.sweep(number, first)
                    if stopped:
                        break
                rows, sure = journal.records(), journal.sure
                if disk.waiting() < 6:
                    disk.cut(*dice.choice(list(cuts_of(disk))))
                else:
                    disk.cut(sorted(dice.sample(range(disk.waiting()), 2)))
                _, base, told = meant(disk)
                if not stopped:
                    self.assertEqual(told, rows[:len(told)])
                    self.assertGreaterEqual(len(told), sure)
                    lost_ones += len(told) < len(rows)
        self.assertGreater(lost_ones, 100)


if __name__ == "__main__":
    unittest.main()
