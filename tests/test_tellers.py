"""The teller, held against a plain model letter by letter, and against what always holds."""

import random
import unittest

from ownseen.disks import Disk
from ownseen.errors import BadLot, BadNumber, BadValue, Misfit
from ownseen.houses import House
from ownseen.journals import Journal
from ownseen.letters import is_letter
from ownseen.plugs import cuts_of, twin
from ownseen.tellers import Teller, yeses_of

from tests.helper import NO_NUMBERS, NO_OBJECTS, NO_ROWS, SeenTest, strict
from tests.plain_disks import PlainDisk
from tests.plain_nodes import PlainTeller
from tests.test_houses import COIN, some_cut


def some_rows(dice):
    """Rows of an end, of no house to four."""
    houses = sorted(dice.sample(range(4), dice.choice((0, 1, 1, 2, 2, 3, 4))))
    return tuple((house, dice.randint(1, 6), dice.randint(1, 3)) for house in houses)


def some_letter(dice, plain):
    deal = dice.choice((0, 1, 2, 3, 11))
    word = dice.choice(("end", "end", "held", "held", "held", "held", "barred", "what", "done"))
    if word == "end":
        life = plain.life if dice.random() < 0.9 else dice.randint(1, plain.life + 1)
        return (4, dice.randint(5, 8), word, deal, life, some_rows(dice))
    if plain.rounds and dice.random() < 0.6:
        deal = dice.choice(sorted(plain.rounds))
    return (4, dice.randrange(4), word, deal)


def some_deed(dice, plain, mishaps):
    if not plain.up and dice.random() < 0.7:
        return ("rise",)
    if dice.random() > mishaps:
        return ("take", some_letter(dice, plain))
    word = dice.choice(("give_up", "give_up", "again", "again", "cut", "fuse", "rise"))
    if word == "give_up":
        return (word, dice.choice((0, 1, 2, 3, 11)))
    if word == "cut":
        return (word, *some_cut(dice, plain.disk.waiting()))
    return (word, dice.randint(1, 4)) if word == "fuse" else (word,)


def state_of(teller):
    return (teller.life, teller.up, teller.asking)


class ModelTest(SeenTest):
    def assert_same(self, teller, plain, told, wanted):
        self.assertEqual(told, wanted)
        self.assertEqual(state_of(teller), (plain.life, plain.up, plain.asking()))
        self.assertEqual(teller.disk.waiting(), plain.disk.waiting())
        self.assertEqual(yeses_of(teller.disk), plain.yeses())

    def test_letter_by_letter(self):
        counts = {}
        for seed in range(500):
            dice = random.Random(seed)
            many = dice.choice((4, 6, 8, 12))
            teller, plain = Teller(Disk(many)), PlainTeller(PlainDisk(many))
            mishaps = dice.choice((0.05, 0.2, 0.4))
            for _ in range(50):
                deed = some_deed(dice, plain, mishaps)
                told, wanted = getattr(teller, deed[0])(*deed[1:]), getattr(plain, deed[0])(*deed[1:])
                self.assert_same(teller, plain, told, wanted)
                for letter in told if deed[0] in ("take", "again", "give_up") else ():
                    self.assertTrue(is_letter(letter))
                    place = (letter[2], letter[4]) if letter[2] == "told" else letter[2]
                    counts[place] = counts.get(place, 0) + 1
                counts["out"] = counts.get("out", 0) + plain.was_out
                counts["full"] = counts.get("full", 0) + (plain.up and len(plain.journal.rows) == plain.journal.room)
        for place in ("hold", "yes", "no", ("told", 0), ("told", 1), "out", "full"):
            self.assertGreater(counts.get(place, 0), 50, (place, counts))

    def test_the_plug_at_each_write_and_flush(self):
        letters = [
            (4, 5, "end", 0, 1, ((0, 1, 1), (2, 1, 1))), (4, 0, "held", 0), (4, 2, "held", 0), (4, 6, "end", 1, 1, ()),
            (4, 5, "end", 2, 1, ((1, 1, 1),)), (4, 1, "held", 2), (4, 0, "what", 5),
        ]
        stopped = 0
        for left in range(1, 9):
            for lands in range(4):
                teller, plain = Teller(Disk(16)), PlainTeller(PlainDisk(16))
                told_yes = set()
                for one in (teller, plain):
                    one.fuse(left)
                for letter in letters:
                    told = teller.take(letter)
                    self.assert_same(teller, plain, told, plain.take(letter))
                    told_yes |= {one[3] for one in told if one[2] == "yes" or one[2:5:2] == ("told", 1)}
                stopped += not plain.up
                cut = tuple(k for k in range(plain.disk.waiting()) if lands >> k & 1)
                torn = tuple(k for k in range(plain.disk.waiting()) if lands > 1 and k not in cut)
                self.assert_same(teller, plain, teller.cut(cut, torn=torn), plain.cut(cut, torn))
                self.assertLessEqual(told_yes, {deal for deal, _ in yeses_of(teller.disk)})
                for one in (teller, plain):
                    one.fuse(1 + lands)
                self.assert_same(teller, plain, teller.rise(), plain.rise())
                self.assert_same(teller, plain, teller.rise(), plain.rise())
                for letter in letters + [(4, 5, "end", 7, 2, ((3, 6, 9),)), (4, 3, "held", 7), (4, 2, "done", 0)]:
                    self.assert_same(teller, plain, teller.take(letter), plain.take(letter))
                self.assert_same(teller, plain, teller.again(), plain.again())
        self.assertGreater(stopped, 20)

    def test_what_was_told_once_is_told_ever_after(self):
        counts = {}
        for seed in range(200):
            dice = random.Random(seed)
            teller, told_of, ends = Teller(Disk(dice.choice((4, 8, 16)))), {}, {}
            for _ in range(120):
                if not teller.up:
                    teller.rise()
                if dice.random() < 0.06:
                    teller.cut(*some_cut(dice, teller.disk.waiting()))
                    continue
                if dice.random() < 0.06:
                    teller.fuse(dice.randint(1, 4))
                deal = dice.randrange(5)
                word = dice.choice(("end", "held", "held", "barred" if dice.random() < 0.2 else "held", "what", "done"))
                houses = [row[0] for row in ends[deal][5]] if deal in ends else []
                letter = (4, dice.choice(houses or [0]), word, deal)
                # Houses only say what they were asked about: behind an end that was sent.
                if word == "end" or not houses:
                    letter = ends.setdefault(deal, (4, 5 + deal % 4, "end", deal, teller.life, some_rows(dice)))
                for one in teller.take(letter) if dice.random() < 0.95 else teller.give_up(deal):
                    if one[2] in ("yes", "no", "told"):
                        verdict = one[4] if one[2] == "told" else int(one[2] == "yes")
                        self.assertEqual(told_of.setdefault(one[3], verdict), verdict, seed)
                        counts[verdict] = counts.get(verdict, 0) + 1
                if teller.disk.waiting() < 5:
                    for lands, torn in cuts_of(teller.disk):
                        other = twin(teller.disk)
                        other.cut(lands, torn)
                        kept = [pair[0] for pair in yeses_of(other)]
                        self.assertTrue(all((deal in kept) == bool(verdict) for deal, verdict in told_of.items()))
        self.assertGreater(min(counts.values()), 300, counts)


class TellerTest(SeenTest):
    def test_a_new_teller(self):
        disk = Disk(8)
        teller = Teller(disk=disk)
        self.assertIs(teller.disk, disk)
        self.assertEqual((state_of(teller), teller.again(), yeses_of(disk)), ((1, True, ()), (), ()))
        disk.fuse(1)
        self.assertEqual(state_of(Teller(disk))[1:], (False, ()))
        disk = Disk(8)
        disk.fuse(2)
        teller = Teller(disk)
        self.assertEqual((teller.up, teller.rise(), teller.life, teller.rise()), (False, True, 1, False))

    def test_ends_of_no_house_to_four(self):
        for houses in ((), (3,), (0, 1), (0, 2, 3), (0, 1, 2, 3)):
            teller, rows = Teller(Disk(8)), [[house, house + 1, 5] for house in houses]
            told = teller.take((4, 6, "end", 9, 1, rows))
            wanted = tuple((house, 4, "hold", 9, house + 1, 5) for house in houses)
            yeses = tuple((house, 4, "yes", 9) for house in houses)
            self.assertEqual(strict(told), strict(wanted or ((6, 4, "told", 9, 1, 1),)))
            for at, house in enumerate(houses):
                self.assertEqual(teller.asking, (9,))
                self.assertEqual(teller.take((4, 7, "end", 9, 1, [])), wanted[at:])
                told = teller.take((4, house, "held", 9))
            self.assertEqual(told, yeses + ((6, 4, "told", 9, 1, 1),))
            self.assertEqual((teller.asking, yeses_of(teller.disk), teller.again()), ((), ((9, houses),), yeses))
            self.assertEqual(teller.take((4, 8, "end", 9, 7, [])), ((8, 4, "told", 9, 1, 1),))

    def test_houses_of_the_deal_and_others(self):
        teller = Teller(Disk(8))
        teller.take((4, 5, "end", 1, 1, ((0, 1, 1), (2, 1, 1))))
        for letter in ((4, 1, "held", 1), (4, 3, "barred", 1), (4, 0, "what", 1), (4, 1, "what", 1), (4, 0, "done", 1), (4, 0, "held", 1), (4, 0, "held", 1)):
            self.assertEqual(teller.take(letter), ())
        self.assertEqual(teller.again(), ((2, 4, "hold", 1, 1, 1),))
        self.assertEqual(teller.take((4, 2, "barred", 1)), ((0, 4, "no", 1), (2, 4, "no", 1), (5, 4, "told", 1, 0, 1)))
        for letter, wanted in (
            ((4, 2, "barred", 1), ()), ((4, 3, "held", 1), ((3, 4, "no", 1),)), ((4, 0, "what", 1), ((0, 4, "no", 1),)), ((4, 0, "done", 1), ()),
            ((4, 8, "end", 1, 1, ()), ((8, 4, "told", 1, 0, 1),)),
            ((4, 3, "barred", 4), ()), ((4, 3, "held", 4), ((3, 4, "no", 4),)), ((4, 5, "end", 4, 1, ()), ((5, 4, "told", 4, 0, 1),)),
        ):
            self.assertEqual(teller.take(letter), wanted)
        teller.take((4, 5, "end", 2, 1, ((1, 1, 1), (3, 1, 1))))
        self.assertEqual((teller.take((4, 1, "held", 2)), len(teller.take((4, 3, "held", 2)))), ((), 3))
        for house, word, wanted in ((0, "held", "yes"), (0, "what", "yes"), (1, "held", "yes"), (3, "barred", None), (0, "done", None), (1, "done", None)):
            self.assertEqual(teller.take((4, house, word, 2)), ((house, 4, wanted, 2),) if wanted else ())
        self.assertEqual(teller.again(), ((3, 4, "yes", 2),))

    def test_deals_given_up(self):
        teller = Teller(Disk(8))
        self.assertEqual(teller.give_up(0), ())
        teller.take((4, 5, "end", 0, 1, ((1, 1, 1),)))
        teller.take((4, 6, "end", 3, 1, ()))
        self.assertEqual((teller.give_up(deal=0), teller.give_up(0), teller.give_up(3)), (((1, 4, "no", 0), (5, 4, "told", 0, 0, 1)), (), ()))
        self.assertEqual(teller.take((4, 1, "held", 0)), ((1, 4, "no", 0),))

    def test_no_room_for_a_yes(self):
        teller = Teller(Disk(6))
        for deal in (0, 1):
            self.assertEqual(teller.take((4, 5, "end", deal, 1, ())), ((5, 4, "told", deal, 1, 1),))
        self.assertEqual(teller.take((4, 5, "end", 2, 1, ())), ((5, 4, "told", 2, 0, 1),))
        teller.take((4, 5, "end", 3, 1, ((0, 1, 1), (1, 1, 1))))
        self.assertEqual(teller.take((4, 0, "held", 3)), ())
        self.assertEqual(teller.take((4, 1, "held", 3)), ((0, 4, "no", 3), (1, 4, "no", 3), (5, 4, "told", 3, 0, 1)))
        self.assertEqual(yeses_of(teller.disk), ((0, ()), (1, ())))

    def test_out(self):
        teller = Teller(Disk(8))
        teller.take((4, 5, "end", 0, 1, ()))
        teller.take((4, 5, "end", 1, 1, ((0, 1, 1),)))
        teller.cut([])
        self.assertEqual((teller.up, teller.asking, teller.again(), teller.give_up(1), teller.take((4, 0, "what", 0))), (False, (), (), (), ()))
        self.assert_raises(BadValue("letter"), teller.take, None)
        self.assert_raises(BadNumber("deal"), teller.give_up, None)
        self.assertEqual((teller.rise(), teller.life, teller.again()), (True, 2, ()))
        self.assertEqual(teller.take((4, 5, "end", 1, 1, ((0, 1, 1),))), ((5, 4, "told", 1, 0, 2),))
        self.assertEqual(teller.take((4, 5, "end", 0, 1, ())), ((5, 4, "told", 0, 1, 2),))

    def test_errors(self):
        self.assert_faults(Teller, {"disk": Disk(4)}, [("disk", NO_OBJECTS + (Journal(Disk(4)), House), BadValue("disk"))])
        teller = Teller(Disk(8))
        teller.take((4, 5, "end", 0, 1, ((0, 1, 1),)))
        before = (state_of(teller), teller.disk.kept(), teller.disk.waiting())
        for letter in NO_ROWS + (
            (), (0, 4, "yes", 0), (5, 4, "told", 0, 1, 1), (4, 5, "end", 0, 1), (4, 5, "end", 0, 0, ()), (4, 0, "held", 12), (4, 5, "held", 0),
            (4, 0, "end", 0, 1, ()), (4, 5, "end", 0, 1, ((0, 7, 1),)), (4, 0, "held", True), (0, 5, "ask", 0, 0, 0, 1),
        ):
            self.assert_raises(BadValue("letter"), teller.take, letter)
        for deal in NO_NUMBERS + (-1, 12):
            self.assert_raises(BadNumber("deal"), teller.give_up, deal)
        for lot in NO_ROWS + ([0], [True]):
            self.assert_raises(BadLot("lands"), teller.cut, lot, None)
            self.assert_raises(BadLot("torn"), teller.cut, [], torn=lot)
        for many in NO_NUMBERS + (0, -1):
            self.assert_raises(BadNumber("many"), teller.fuse, many)
        for value in NO_OBJECTS + (teller,):
            self.assert_raises(BadValue("disk"), yeses_of, value)
        self.assertEqual((state_of(teller), teller.disk.kept(), teller.disk.waiting()), before)
        rows = [[0, 1, 1]]
        self.assertEqual(teller.take(letter=[4, 5, "end", 1, 1, rows]), ((0, 4, "hold", 1, 1, 1),))
        rows[0][1] = 5
        self.assertEqual(teller.again()[-1], (0, 4, "hold", 1, 1, 1))
        teller.disk.write(7, [1])
        teller.disk.write(7, [2])
        self.assert_raises(Misfit("torn"), teller.cut, lands=[0], torn=[0])

    def test_disks_of_other_things(self):
        house = House(0, COIN, "in place", (), Disk(16))
        house.take((0, 5, "ask", 0, 0, 0, 1))
        house.take((0, 4, "hold", 0, 1, 1))
        house.take((0, 4, "yes", 0))
        self.assertEqual(yeses_of(house.disk), ())
        disk = Disk(32)
        journal = Journal(disk)
        for record in ([], [4], [4, 0], [4, 0, 16], [4, 12, 1], [4, 0, -1], [4, -1, 0], [4, 1, 2, 3], [9, 9, 9]):
            journal.put(record)
        journal.force()
        self.assertIsInstance(yeses_of(disk), tuple)

    def test_at_the_greatest_size(self):
        def long_run():
            teller = Teller(Disk(128))
            for deal in range(12):
                teller.take((4, 5, "end", deal, 1, [(house, 6, 10 ** 59) for house in range(4)]))
            for _ in range(200):
                for deal in range(12):
                    for house in range(4):
                        teller.take((4, house, "held", deal))
                        teller.take((4, house, "done", deal))
                teller.again()
            return yeses_of(teller.disk)
        self.assertEqual(len(self.assert_short(long_run)), 12)


if __name__ == "__main__":
    unittest.main()
