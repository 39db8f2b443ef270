"""Disks side by side, of one world and of unlike ones, held against a plain look along what lies on them."""

import random
import unittest

from ownseen.accords import Accord, Quarrel, accord
from ownseen.check_round import shows_accord
from ownseen.disks import Disk
from ownseen.errors import BadValue, Misfit
from ownseen.houses import House
from ownseen.journals import Journal
from ownseen.papers import Denial, Paper
from ownseen.tellers import Teller
from ownseen.worlds import World

from tests.helper import NO_OBJECTS, NO_ROWS, SeenTest, bends, listed, strict
from tests.plain_disks import plain_meaning
from tests.plain_worlds import PlainWorld, live_step, some_program, some_script
from tests.test_houses import COIN


def plain_quarrels(yeses, blocks):
    """The pairs (deal, house) about which disks do not agree; yeses are pairs, blocks those of plain houses."""
    found = set()
    for house, told in enumerate(blocks):
        _, base, records = plain_meaning(told)
        for deal in range(12):
            words = [record[0] for record in records if record[1] == deal]
            due = any(one == deal and house in houses for one, houses in yeses)
            bears = "yes" in words or ("ready" in words and "no" not in words) or base != 0
            if (due and not bears) or ("yes" in words and not due):
                found.add((deal, house))
    return found


def plain_accord_rows(yeses, blocks):
    rows = []
    for deal, house in sorted((deal, house) for deal, houses in yeses for house in houses):
        words = [record[0] for record in plain_meaning(blocks[house])[2] if record[1] == deal]
        rows.append((deal, house, "ended" if "yes" in words else "ready" if "ready" in words else "folded"))
    return tuple(rows)


def some_moments(seed, many):
    """Pairs (world, plain world) in the midst of scripts."""
    told = []
    for number in range(many):
        dice = random.Random(1000 * seed + number)
        program = some_program(dice, steps=3, enough=0.8)
        world, plain = World(program), PlainWorld(program)
        for step in some_script(dice, most=dice.choice((60, 160, 320))):
            step = live_step(dice, plain) if dice.random() < 0.2 else step
            world.step(step)
            plain.step(step)
        told.append((world, plain))
    return told


MOMENTS = some_moments(1, 70)


def side_by_side(dice):
    """Disks of one world, or of unlike ones: the package's and the plain ones."""
    world, plain = dice.choice(MOMENTS)
    houses = [(house.disk, other.disk.kept()) for house, other in zip(world.houses, plain.houses)]
    if dice.random() < 0.6:
        for at in range(len(houses)):
            if dice.random() < 0.5:
                other, other_plain = dice.choice(MOMENTS)
                house = dice.randrange(len(other.houses))
                houses[at] = (other.houses[house].disk, other_plain.houses[house].disk.kept())
        if dice.random() < 0.2:
            houses = houses[:-1] or houses
    return world.teller.disk, [house[0] for house in houses], plain.teller.yeses(), [house[1] for house in houses]


class AccordTest(SeenTest):
    def test_side_by_side(self):
        counts = {}
        for seed in range(1500):
            teller, disks, yeses, blocks = side_by_side(random.Random(seed))
            if any(house >= len(disks) for _, houses in yeses for house in houses):
                self.assert_raises(Misfit("disks"), accord, teller, disks)
                self.assert_raises(Misfit("disks"), shows_accord, teller, disks, None)
                counts["misfit"] = counts.get("misfit", 0) + 1
                continue
            before = [(disk.kept(), disk.waiting()) for disk in [teller] + disks]
            quarrels = plain_quarrels(yeses, blocks)
            told = accord(teller, tuple(disks))
            wanted = Quarrel(*min(quarrels)) if quarrels else Accord(plain_accord_rows(yeses, blocks))
            self.assertEqual(told, wanted)
            self.assertEqual(strict(told.parts), strict(wanted.parts))
            self.assertIs(shows_accord(teller, disks, told), True)
            self.assertIs(shows_accord(teller, disks, type(told)(*listed(told.parts))), True)
            self.assertIs(shows_accord(teller, disks, Accord(plain_accord_rows(yeses, blocks))), not quarrels)
            for deal in range(-1, 13):
                for house in range(-1, 5):
                    self.assertIs(shows_accord(teller, disks, Quarrel(deal, house)), (deal, house) in quarrels)
            self.assertEqual([(disk.kept(), disk.waiting()) for disk in [teller] + disks], before)
            counts[bool(told)] = counts.get(bool(told), 0) + 1
            for row in told.rows if told else ():
                counts[row[2]] = counts.get(row[2], 0) + 1
        for place in (True, False, "misfit", "ended", "ready", "folded"):
            self.assertGreater(counts.get(place, 0), 10, counts)

    def test_bent_papers(self):
        dice, fine, rows = random.Random(3), 0, 0
        for world, _ in sorted(MOMENTS, key=lambda pair: -len(pair[1].teller.yeses()))[:20]:
            disks = [house.disk for house in world.houses]
            told = accord(world.teller.disk, disks)
            right = [list(row) for row in told.rows]
            for value in dice.sample(list(bends(told.rows)), min(60, 7 + 4 * len(right))):
                wanted = isinstance(value, (list, tuple)) and strict(value) == strict(right)
                self.assertIs(shows_accord(world.teller.disk, disks, Accord(value)), wanted, value)
                fine += wanted
            rows += len(right)
        self.assertGreater(rows, 20)
        for deal, house in ((True, 0), (0, False), (None, 0), (0, None), ("0", 0), (0.0, 0), ((), 0), ([0], 0), ({}, 0)):
            one = House(0, COIN, "in place", (), Disk(16))
            one.take((0, 5, "ask", 0, 0, 0, 1))
            one.take((0, 4, "hold", 0, 1, 1))
            one.take((0, 4, "yes", 0))
            self.assertIs(shows_accord(Disk(4), [one.disk], Quarrel(0, 0)), True)
            self.assertIs(shows_accord(Disk(4), [one.disk], Quarrel(deal, house)), False)

    def test_a_ready_with_a_no_behind_a_fold(self):
        house, desk = House(0, COIN, "in place", (), Disk(32)), Teller(Disk(16))
        house.sweep()
        house.take((0, 5, "ask", 0, 0, 0, 1))
        house.take((0, 4, "hold", 0, 1, 1))
        desk.take((4, 5, "end", 0, 1, ((0, 1, 1),)))
        desk.take((4, 0, "held", 0))
        self.assertEqual(accord(desk.disk, [house.disk]).rows, ((0, 0, "ready"),))
        house.take((0, 4, "no", 0))
        house.journal.force()
        self.assertEqual(accord(desk.disk, [house.disk]).rows, ((0, 0, "ready"),))
        house.sweep()
        self.assertEqual(accord(desk.disk, [house.disk]).rows, ((0, 0, "folded"),))

    def test_a_no_bears_nothing(self):
        house, desk = House(0, COIN, "in place", (), Disk(32)), Teller(Disk(16))
        house.take((0, 5, "ask", 0, 0, 0, 1))
        house.take((0, 4, "hold", 0, 1, 1))
        desk.take((4, 5, "end", 0, 1, ((0, 1, 1),)))
        desk.take((4, 0, "held", 0))
        self.assertEqual(bool(accord(desk.disk, [house.disk])), True)
        house.take((0, 4, "no", 0))
        self.assertEqual(bool(accord(desk.disk, [house.disk])), True)
        house.cut([0])
        self.assertEqual(accord(desk.disk, [house.disk]), Quarrel(0, 0))

    def test_no_other_paper(self):
        disk = Disk(4)
        for value in (None, True, (), Paper("accord", ()), Denial("quarrel", 0, 0), Accord, Accord(None), Accord(7), Accord([()]), Quarrel(0, 0)):
            self.assertIs(shows_accord(disk, [disk], value), False)
        self.assertIs(shows_accord(teller=disk, disks=[disk], value=Accord([])), True)
        self.assertEqual(accord(teller=disk, disks=[Disk(4)] * 4), Accord([]))

    def test_errors(self):
        disk = Disk(4)
        rows = NO_ROWS + ([], [disk] * 5, [None], [disk, None], [[disk]], disk, [Journal(Disk(4))], [House(0, COIN, "in place", (), Disk(4))])
        faults = [("teller", NO_OBJECTS + (Teller(Disk(4)), [disk]), BadValue("teller")), ("disks", rows, BadValue("disks"))]
        self.assert_faults(accord, {"teller": disk, "disks": [disk]}, faults)
        self.assert_faults(shows_accord, {"teller": disk, "disks": [disk], "value": None}, faults)
        desk = Teller(Disk(8))
        desk.take((4, 5, "end", 0, 1, ((2, 1, 1),)))
        desk.take((4, 2, "held", 0))
        self.assert_raises(Misfit("disks"), accord, desk.disk, [disk] * 2)
        self.assert_raises(BadValue("disks"), accord, desk.disk, [disk, 7])
        self.assertEqual(accord(desk.disk, [disk] * 3), Quarrel(0, 2))


if __name__ == "__main__":
    unittest.main()
