"""Disks held against what happened to them, write by write; twins, cuts, what may lie."""

import random
import unittest

from ownseen.disks import Disk
from ownseen.errors import BadLot, BadNumber, BadValue, Misfit, Out, TooMany
from ownseen.journals import Journal
from ownseen.plugs import behind, cuts_of, may_lie, twin

from tests.helper import NO_NUMBERS, NO_OBJECTS, NO_ROWS, SeenTest, strict
from tests.plain_disks import PlainDisk, plain_cuts, some_block

NO_LOTS = NO_ROWS + ([0, 0], [1, 0], [-1], [True], [None], ["0"], [0, 1, 2, 3], [[0]], [0.0])
NO_BLOCKS = NO_ROWS + ([1] * 9, (True,), [None], ["1"], [[1]], [1.0], [1, False], (1, 2, ()))


def state_of(disk):
    return (disk.many, disk.kept(), disk.waiting(), [disk.look(at) for at in range(disk.many)])


def some_deed(dice, disk, plain):
    """One deed at a disk and at the plain one; what both told."""
    word = dice.choice(("write", "write", "write", "write", "flush", "cut", "fuse", "no_fuse"))
    given = ()
    if word == "write":
        given = (dice.randrange(disk.many), some_block(dice, disk.many))
    if word == "cut":
        given = dice.choice(plain_cuts(disk.waiting())) if disk.waiting() < 6 else ((0, 2), (1,))
    if word == "fuse":
        given = (dice.randint(1, 6),)
    try:
        told = getattr(disk, word)(*given)
    except Out:
        told = "out"
    return told, getattr(plain, word)(*given)


class DiskTest(SeenTest):
    def test_against_what_happened(self):
        outs = 0
        for seed in range(150):
            dice = random.Random(seed)
            disk = Disk(dice.choice((4, 5, 6, 9)))
            plain = PlainDisk(disk.many)
            for _ in range(60):
                told, wanted = some_deed(dice, disk, plain)
                self.assertEqual(told, wanted)
                outs += told == "out"
                self.assertEqual(disk.waiting(), plain.waiting())
                self.assertEqual(disk.kept(), plain.kept())
                self.assertEqual([disk.look(at) for at in range(disk.many)], [plain.look(at) for at in range(disk.many)])
        self.assertGreater(outs, 300)

    def test_a_new_disk(self):
        for many in (4, 5, 127, 128):
            disk = Disk(many=many)
            self.assertEqual((disk.many, disk.waiting(), disk.kept()), (many, 0, ((),) * many))

    def test_all_cuts_of_writes_to_one_block(self):
        for lands, torn in plain_cuts(4):
            disk, plain = Disk(4), PlainDisk(4)
            for one in (disk, plain):
                one.write(2, (9,))
                one.flush()
                for at, block in ((2, (1,)), (2, (2,)), (3, (3,)), (2, (4,))):
                    one.write(at, block)
                one.cut(lands, torn)
            self.assertEqual(disk.kept(), plain.kept())
            self.assertEqual((disk.waiting(), disk.look(2)), (0, disk.kept()[2]))

    def test_fuses_at_each_place(self):
        for many in range(1, 7):
            disk = Disk(4)
            disk.fuse(many=many)
            for number in range(1, 9):
                deed = [disk.flush] if number % 3 == 0 else [disk.write, 2, [number]]
                if number < many:
                    self.assertIsNone(deed[0](*deed[1:]))
                else:
                    before = state_of(disk)
                    self.assert_raises(Out(), *deed)
                    self.assertEqual(state_of(disk), before)

    def test_a_fuse_is_set_anew_taken_out_and_cut(self):
        disk = Disk(4)
        disk.fuse(1)
        disk.fuse(3)
        disk.write(0, ())
        disk.fuse(2)
        disk.flush()
        self.assert_raises(Out(), disk.flush)
        disk.fuse(2)
        disk.flush()
        self.assert_raises(Out(), disk.write, 0, ())
        self.assertIsNone(disk.no_fuse())
        disk.flush()
        disk.fuse(1)
        self.assertIsNone(disk.cut(()))
        for _ in range(5):
            disk.write(1, [1])
        self.assertIsNone(disk.no_fuse())
        disk.fuse(10 ** 59)
        disk.flush()

    def test_what_raises_another_error_does_not_count(self):
        disk = Disk(4)
        disk.fuse(2)
        for _ in range(3):
            self.assert_raises(BadNumber("at"), disk.write, 4, [1])
            self.assert_raises(BadNumber("block"), disk.write, 0, [True])
            self.assert_raises(BadLot("lands"), disk.cut, [0])
            self.assert_raises(BadNumber("many"), disk.fuse, 0)
        disk.write(0, [1])
        self.assert_raises(BadNumber("at"), disk.write, -1, [1])
        self.assert_raises(Out(), disk.write, 0, [2])
        self.assert_raises(BadNumber("at"), disk.write, -1, [1])
        self.assert_raises(BadNumber("block"), disk.write, 0, None)
        self.assertEqual(disk.look(0), (1,))

    def test_errors(self):
        self.assert_faults(Disk, {"many": 4}, [("many", NO_NUMBERS + (3, 129, 0, -4), BadNumber("many"))])
        disk = Disk(5)
        ats = NO_NUMBERS + (-1, 5, 10 ** 60)
        self.assert_faults(disk.write, {"at": 0, "block": [1]}, [("at", ats, BadNumber("at")), ("block", NO_BLOCKS, BadNumber("block"))])
        self.assert_faults(disk.look, {"at": 0}, [("at", ats, BadNumber("at"))])
        self.assert_faults(disk.fuse, {"many": 99}, [("many", NO_NUMBERS + (0, -1), BadNumber("many"))])
        disk = Disk(5)
        for at in (2, 2, 3):
            disk.write(at, [at])
        before = state_of(disk)
        for lands in NO_LOTS:
            self.assert_raises(BadLot("lands"), disk.cut, lands)
            self.assert_raises(BadLot("lands"), disk.cut, lands, lands)
            self.assert_raises(BadLot("torn"), disk.cut, [0], torn=lands)
        self.assert_raises(Misfit("torn"), disk.cut, [0, 2], [1, 2])
        self.assert_raises(BadLot("torn"), disk.cut, lands=[2], torn=[2, 2])
        self.assertEqual(state_of(disk), before)
        disk.cut(torn=[2], lands=(0, 1))
        self.assertEqual(disk.kept()[2:], ((2,), (), ()))

    def test_what_is_passed_is_not_kept(self):
        disk, block = Disk(4), [1, 2]
        disk.write(0, block)
        block.append(3)
        disk.flush()
        block.clear()
        self.assertEqual(strict(disk.kept()[0]), strict((1, 2)))
        self.assertIs(type(disk.look(0)), tuple)
        disk.write(1, [10 ** 59] * 8)
        self.assertEqual(disk.look(1), (10 ** 59,) * 8)
        lands = [0]
        disk.cut(lands)
        self.assertEqual(lands, [0])


class PlugsTest(SeenTest):
    def some_disk(self, seed):
        dice = random.Random(seed)
        disk, plain = Disk(dice.choice((4, 6))), PlainDisk(4)
        plain = PlainDisk(disk.many)
        for _ in range(dice.randint(0, 14)):
            some_deed(dice, disk, plain)
        while disk.waiting() > 5:
            disk.cut(())
            plain.cut(())
        return disk, plain

    def test_cuts_and_what_lies_behind_them(self):
        counts = {}
        for seed in range(160):
            disk, plain = self.some_disk(seed)
            before = state_of(disk)
            told = list(cuts_of(disk))
            self.assertEqual(strict(told), strict(plain_cuts(plain.waiting())))
            self.assertTrue(all(type(pair) is type(pair[0]) is type(pair[1]) is tuple for pair in told))
            lying = [set() for _ in range(disk.many)]
            for lands, torn in told:
                other = twin(disk)
                other.cut(lands, torn)
                blocks = behind(disk, list(lands), torn=list(torn))
                self.assertEqual(strict(blocks), strict(other.kept()))
                self.assertIs(type(blocks), tuple)
                for at, block in enumerate(blocks):
                    lying[at].add(block)
            self.assertEqual(may_lie(disk), tuple(tuple(sorted(row)) for row in lying))
            self.assertEqual(state_of(disk), before)
            counts[disk.waiting()] = counts.get(disk.waiting(), 0) + 1
        self.assertTrue(all(counts.get(many, 0) > 3 for many in (0, 1, 2, 3, 4)), counts)

    def test_behind_against_the_plain_disk(self):
        for seed in range(60):
            disk, plain = self.some_disk(seed)
            pairs = plain_cuts(disk.waiting())
            lands, torn = random.Random(seed).choice(pairs)
            told = behind(disk, lands, torn)
            plain.cut(lands, torn)
            self.assertEqual(told, plain.kept())

    def test_a_twin_goes_its_own_way(self):
        for left in range(1, 5):
            disk = Disk(6)
            disk.write(0, [1])
            disk.flush()
            disk.write(0, [2])
            disk.write(3, [3])
            disk.fuse(left)
            other = twin(disk)
            self.assertEqual(state_of(other), state_of(disk))
            for one in (disk, other):
                for number in range(1, left):
                    one.write(2, [number])
                self.assert_raises(Out(), one.flush)
            other.cut([0])
            self.assertEqual((disk.waiting(), disk.kept()[0], other.kept()[0]), (1 + left, (1,), (2,)))
            other.write(1, [7])
            self.assertEqual((disk.look(1), other.look(1)), ((), (7,)))
        self.assertEqual(state_of(twin(Disk(128))), state_of(Disk(128)))
        twin(disk=Disk(4)).flush()

    def test_many_writes(self):
        disk = Disk(4)
        for number in range(5):
            disk.write(3, [number])
        self.assertEqual(len(list(cuts_of(disk))), 243)
        disk.write(3, [5])
        self.assert_raises(TooMany("writes", 5), lambda: list(cuts_of(disk)))
        self.assertEqual(may_lie(disk)[3], ((), (0,), (1,), (2,), (3,), (4,), (5,)))
        self.assertEqual(behind(disk, (), [5]), ((), (), (), ()))
        for number in range(3000):
            disk.write(number % 4, [number])
        self.assert_short(may_lie, disk)
        self.assert_short(behind, disk, list(range(0, 3006, 2)), list(range(1, 3006, 2)))

    def test_errors(self):
        disk = Disk(4)
        for value in NO_OBJECTS + (Journal(Disk(4)), Disk):
            for function in (twin, may_lie):
                self.assert_raises(BadValue("disk"), function, value)
            self.assert_raises(BadValue("disk"), behind, value, None, None)
            self.assert_raises(BadValue("disk"), lambda: list(cuts_of(value)))
        for at in (2, 2, 3):
            disk.write(at, [at])
        before = state_of(disk)
        for lot in NO_LOTS:
            self.assert_raises(BadLot("lands"), behind, disk, lot, None)
            self.assert_raises(BadLot("torn"), behind, disk, [1], torn=lot)
        self.assert_raises(Misfit("torn"), behind, disk, lands=[0, 2], torn=[2])
        self.assertEqual(state_of(disk), before)


if __name__ == "__main__":
    unittest.main()
