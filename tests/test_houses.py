"""Houses, held against a plain model letter by letter, and against what always holds."""

import random
import unittest

from ownseen.clashes import back_table, beside_table
from ownseen.disks import Disk
from ownseen.errors import BadKind, BadLot, BadNumber, BadTable, BadValue, Misfit
from ownseen.histories import History
from ownseen.houses import House, log_of
from ownseen.journals import Journal
from ownseen.kinds import Kind
from ownseen.letters import is_letter
from ownseen.makers import bag, chest, counter, line, purse, shelf
from ownseen.own import keeps
from ownseen.plugs import cuts_of, twin
from ownseen.tellers import Teller

from tests.helper import (
    NO_NUMBERS, NO_OBJECTS, NO_ROWS, SeenTest, deals_with, great_kind, history_stands, plain_break, plain_lots, ready_deals,
    some_kind, strict,
)
from tests.plain_disks import PlainDisk
from tests.plain_nodes import PlainHouse
from tests.plain_worlds import enough_table
from tests.test_logs import NO_WAYS, WAYS
from tests.test_ways import NO_TABLES, some_tables

COIN = Kind(["take"], ["done", "short"], 2, 1, [(0, 0, 1, 0), (1, 0, 0, 0)])
KINDS = (COIN, shelf(2, 0), purse(2, 1), counter(2), chest(2), line(2, 2), bag(2, 2))


def state_of(house):
    return (house.life, house.up, house.log, house.waits, house.working, house.holding)


def plain_state(plain):
    return (plain.life, plain.up, tuple(map(tuple, plain.log)), plain.waits(), plain.working(), plain.holding())


def some_letter(dice, plain, deals):
    """A letter to the house: one that goes on with a deal, or any other one."""
    fresh = [deal for deal in deals if deal not in plain.over] or deals
    deal = dice.choice(fresh if dice.random() < 0.85 else deals)
    life = plain.life if dice.random() < 0.95 else dice.randint(1, plain.life + 1)
    many = len(plain.dos(deal))
    word = dice.choice(("ask", "ask", "ask", "ask", "hold", "hold", "yes", "yes", "no"))
    if dice.random() < 0.7:
        word = dice.choice(("yes", "yes", "no", "hold") if deal in plain.holding() else ("ask", "ask", "ask", "hold"))
    if word == "ask":
        number = min(5, many if dice.random() < 0.8 else dice.randint(0, many + 1))
        return (plain.number, dice.choice((5, 6, 8)), "ask", deal, number, dice.randrange(len(plain.kind.asks)), life)
    if word == "hold":
        return (plain.number, 4, "hold", deal, min(6, max(1, many if dice.random() < 0.9 else many + dice.choice((-1, 1)))), life)
    return (plain.number, 4 if word == "yes" or dice.random() < 0.5 else 7, word, deal)


def some_cut(dice, waiting):
    """Which of the writes that wait land, which are torn."""
    fates = [dice.choice((0, 0, 1, 1, 2)) for _ in range(waiting)]
    return tuple(k for k in range(waiting) if fates[k] == 1), tuple(k for k in range(waiting) if fates[k] == 2)


def some_deed(dice, plain, deals, mishaps):
    """A deed for a house: the name of a method and what it is given."""
    if not plain.up and dice.random() < 0.7:
        return ("rise",)
    if dice.random() > mishaps:
        return ("take", some_letter(dice, plain, deals))
    word = dice.choice(("drop", "again", "sweep", "sweep", "cut", "fuse", "rise"))
    if word == "drop":
        return (word, dice.choice(deals))
    if word == "cut":
        return (word, *some_cut(dice, plain.disk.waiting()))
    return (word, dice.randint(1, 5)) if word == "fuse" else (word,)


class ModelTest(SeenTest):
    def assert_same(self, house, plain, told, wanted):
        self.assertEqual(told, wanted)
        self.assertEqual(state_of(house), plain_state(plain))
        self.assertEqual(house.news(), plain.news())
        self.assertEqual(house.disk.waiting(), plain.disk.waiting())
        self.assertEqual(log_of(house.disk), plain.lying())
        for ended in ((), (0, 1), tuple(range(12))):
            self.assertEqual(house.meaning(ended), plain.meaning(ended))

    def run_both(self, dice, kind, way, table, many, deeds, deals, mishaps, counts):
        house, plain = House(dice.choice((0, 3)), kind, way, table, Disk(many)), None
        plain = PlainHouse(house.number, kind, way, table, PlainDisk(many))
        for _ in range(deeds):
            deed = some_deed(dice, plain, deals, mishaps)
            told = getattr(house, deed[0])(*deed[1:])
            wanted = getattr(plain, deed[0])(*deed[1:])
            if deed[0] in ("cut", "fuse"):
                self.assertIsNone(told)
            self.assert_same(house, plain, told, wanted)
            for letter in told if deed[0] in ("take", "drop", "again") else ():
                self.assertTrue(is_letter(letter))
                counts[letter[2]] = counts.get(letter[2], 0) + 1
            if deed[0] == "sweep" and told:
                place = ("fold", way, plain.journal.rows == [])
                counts[place] = counts.get(place, 0) + 1
            counts["several"] = counts.get("several", 0) + (deed[0] == "take" and len(told) > 1)
            counts["out"] = counts.get("out", 0) + plain.was_out
        return house, plain

    def test_letter_by_letter(self):
        counts = {}
        for seed in range(500):
            dice = random.Random(seed)
            kind = dice.choice(KINDS) if seed % 3 else some_kind(dice, states=3, asks=2, answers=2)
            way = dice.choice(WAYS)
            table = enough_table(kind, way) if dice.random() < 0.6 else dice.choice(some_tables(dice, kind))
            many = dice.choice((4, 6, 8, 12, 16, 24, 24))
            deals = sorted(dice.sample(range(12), dice.randint(1, 12)))
            self.run_both(dice, kind, way, table, many, 45, deals, dice.choice((0.05, 0.2, 0.4)), counts)
        for word in ("answer", "gone", "held", "barred", "what", "done", "several", "out"):
            self.assertGreater(counts.get(word, 0), 40, (word, counts))
        for way in WAYS:
            self.assertGreater(counts[("fold", way, True)], 20)
            self.assertGreater(counts[("fold", way, False)], 10)

    def test_coming_up_by_a_new_house(self):
        for seed in range(120):
            dice = random.Random(1000 + seed)
            kind, way = dice.choice(KINDS), dice.choice(WAYS)
            house, plain = self.run_both(dice, kind, way, enough_table(kind, way), 16, 30, (0, 1, 2), 0.1, {})
            if dice.random() < 0.5:
                cut = some_cut(dice, plain.disk.waiting())
                house.disk.cut(*cut)
                plain.disk.cut(*cut)
            logs = []
            for _ in range(3):
                left = dice.choice((1, 2, 9, 9))
                house.disk.fuse(left)
                plain.disk.fuse(left)
                house = House(2, kind, way, enough_table(kind, way), house.disk)
                plain = PlainHouse(2, kind, way, enough_table(kind, way), plain.disk)
                self.assertIs(house.up, left == 9)
                self.assertEqual(state_of(house), plain_state(plain))
                self.assert_same(house, plain, house.rise(), plain.rise())
                self.assertTrue(house.up)
                logs.append(house.log)
                house.disk.no_fuse()
                plain.disk.no_fuse()
            self.assertEqual(logs[1:], logs[:2])

    def test_the_plug_at_each_write_and_flush(self):
        """One run of letters, stopped at each write and flush, with each lot of what waits landing; then told again."""
        letters = [
            (1, 5, "ask", 0, 0, 0, 1), (1, 6, "ask", 1, 0, 1, 1), (1, 4, "hold", 0, 1, 1), (1, 4, "yes", 0), (1, 7, "ask", 2, 0, 0, 1),
            (1, 4, "hold", 2, 1, 1), (1, 4, "no", 2), (1, 4, "hold", 1, 1, 1), (1, 4, "yes", 1),
        ]
        kind, stopped = shelf(2, 0), 0
        for way in WAYS:
            for swept in (2, 4, 7, 9):
                for left in range(1, 22):
                    for lands in (0, 1, 2, 3, 5, 7):
                        house = House(1, kind, way, enough_table(kind, way), Disk(24))
                        plain = PlainHouse(1, kind, way, enough_table(kind, way), PlainDisk(24))
                        for one in (house, plain):
                            one.fuse(left)
                        for number, letter in enumerate(letters):
                            self.assert_same(house, plain, house.take(letter), plain.take(letter))
                            if number + 1 == swept:
                                self.assert_same(house, plain, house.sweep(), plain.sweep())
                            if not plain.up:
                                break
                        stopped += not plain.up
                        cut = tuple(k for k in range(plain.disk.waiting()) if lands >> k & 1)
                        torn = tuple(k for k in range(plain.disk.waiting()) if not lands >> k & 1 and k & 1)
                        self.assert_same(house, plain, house.cut(cut, torn=torn), plain.cut(cut, torn))
                        for one in (house, plain):
                            one.fuse(1 + left % 3)
                        self.assert_same(house, plain, house.rise(), plain.rise())
                        self.assert_same(house, plain, house.rise(), plain.rise())
                        for letter in letters[:4]:
                            letter = letter[:-1] + (2,) if letter[2] == "ask" else letter
                            self.assert_same(house, plain, house.take(letter), plain.take(letter))
        self.assertGreater(stopped, 500)


class Asker:
    """A deal, as hands and the teller treat it at one house: asks in order, one end, one verdict."""

    def __init__(self, deal, asks):
        self.deal, self.asks, self.life = deal, asks, None
        self.answers, self.gone, self.held, self.verdict = {}, False, False, None

    def letter(self, dice, house):
        if self.verdict is not None:
            return (house.number, 4, ("no", "yes")[self.verdict], self.deal)
        if self.gone:
            return (house.number, 5, "no", self.deal)
        number = len(self.answers)
        if number < len(self.asks):
            self.life = self.life or house.life
            number = number if dice.random() < 0.8 else dice.randint(0, number)
            return (house.number, 5, "ask", self.deal, number, self.asks[number], self.life)
        if self.held:
            self.verdict = dice.choice((0, 1, 1, 1))
        return (house.number, 4, "hold", self.deal, len(self.asks), self.life)

    def hear(self, letter):
        if letter[2] == "answer" and letter[4] == len(self.answers) and not self.gone:
            self.answers[letter[4]] = letter[5]
        elif letter[2] == "gone" and len(self.answers) < len(self.asks):
            self.gone = True
        elif letter[2] == "held":
            self.held = True
        elif letter[2] == "barred":
            self.verdict = 0 if self.verdict is None else self.verdict


class AlwaysTest(SeenTest):
    def assert_keeps(self, kind, events):
        """The own rule by a plain listing of orders, whatever lot of the ready deals gets a yes."""
        if len(deals_with(events, "yes") + ready_deals(events)) > 5:
            return 0
        for lot in plain_lots(ready_deals(events)):
            self.assertIsNone(plain_break(kind, events + [("yes", deal) for deal in lot]))
        return 1

    def assert_lasts(self, house, events):
        """Behind each cut what is ready, or ended, lies on the disk; unless it was folded."""
        if house.disk.waiting() > 5:
            return
        for lands, torn in cuts_of(house.disk):
            other = twin(house.disk)
            other.cut(lands, torn)
            folded, log = log_of(other)
            words = [(record[0], record[1]) for record in log]
            for deal in ready_deals(events):
                self.assertIn(("ready", deal), words)
            for deal in deals_with(events, "yes"):
                self.assertTrue(folded is not None or ("yes", deal) in words)

    def test_what_always_holds(self):
        checked, ended = 0, 0
        for seed in range(260):
            dice = random.Random(seed)
            kind = dice.choice(KINDS)
            way = dice.choice(WAYS)
            house = House(0, kind, way, enough_table(kind, way), Disk(dice.choice((16, 40, 64))))
            askers = [Asker(deal, [dice.randrange(len(kind.asks)) for _ in range(dice.randint(1, 3))]) for deal in range(dice.randint(2, 6))]
            events, late = [], []
            for _ in range(80):
                if not house.up:
                    house.rise()
                mishap = dice.random()
                if mishap < 0.03:
                    house.cut(*some_cut(dice, house.disk.waiting()))
                elif mishap < 0.06:
                    house.fuse(dice.randint(1, 6))
                elif mishap < 0.12:
                    house.sweep()
                elif mishap < 0.14:
                    late += house.drop(dice.randrange(6))
                else:
                    letter = dice.choice(askers).letter(dice, house)
                    for _ in range(dice.choice((1, 1, 2))):
                        late += house.take(letter)
                while late and dice.random() < 0.9:
                    letter = late.pop(dice.randrange(len(late)))
                    askers[letter[3]].hear(letter)
                for event in house.news():
                    self.assertTrue(len(events) >= 120 or history_stands(kind, events, event), (seed, event))
                    events.append(event)
                checked += self.assert_keeps(kind, events)
                self.assert_lasts(house, events)
            ended += len(deals_with(events, "yes"))
            if len(deals_with(events, "yes")) < 8 and len(events) <= 120:
                self.assertTrue(keeps(History(kind, events)))
        self.assertGreater(checked, 10000)
        self.assertGreater(ended, 200)


class HouseTest(SeenTest):
    def test_a_new_house(self):
        disk, table = Disk(16), [[[0, 1], [0, 0]]]
        house = House(number=2, kind=COIN, way="in place", table=table, disk=disk)
        self.assertIs(house.disk, disk)
        self.assertEqual(strict([house.number, house.way, house.table, house.life, house.up]), strict([2, "in place", (((0, 1), (0, 0)),), 1, True]))
        self.assertEqual((house.kind, state_of(house)[2:], house.news(), house.again()), (COIN, ((), (), (), ()), (), ()))
        self.assertEqual(table, [[[0, 1], [0, 0]]])
        table[0].clear()
        self.assertEqual(house.table, (((0, 1), (0, 0)),))

    def test_asks_that_wait_are_tried_in_their_order(self):
        house = House(0, COIN, "in place", back_table(COIN), Disk(32))
        self.assertEqual(len(house.take((0, 5, "ask", 0, 0, 0, 1))), 1)
        for deal, hand in ((3, 6), (1, 7), (2, 8)):
            self.assertEqual(house.take((0, hand, "ask", deal, 0, 0, 1)), ())
        self.assertEqual(house.waits, (3, 1, 2))
        self.assertEqual(house.take((0, 5, "no", 0)), ((6, 0, "answer", 3, 0, 0, 1),))
        self.assertEqual((house.waits, house.working), ((1, 2), (1, 2, 3)))
        self.assertEqual(house.take((0, 4, "hold", 3, 2, 1)), ((4, 0, "barred", 3), (7, 0, "answer", 1, 0, 0, 1)))
        house.take((0, 4, "hold", 1, 1, 1))
        self.assertEqual(house.take((0, 4, "yes", 1)), ((4, 0, "done", 1), (8, 0, "answer", 2, 0, 1, 1)))
        self.assertEqual(house.take((0, 4, "yes", 1)), ((4, 0, "done", 1),))
        self.assertEqual(house.drop(2), ((8, 0, "gone", 2, 1),))
        self.assertEqual(house.news()[-3:], (("yes", 1), ("answer", 2, 1), ("no", 2)))

    def test_several_asks_that_wait_are_answered_at_once(self):
        kind = shelf(2, 0)
        house = House(0, kind, "in place", back_table(kind), Disk(32))
        house.take((0, 5, "ask", 0, 0, 1, 1))
        for deal in (2, 1):
            self.assertEqual(house.take((0, 5 + deal, "ask", deal, 0, 2, 1)), ())
        self.assertEqual(house.take((0, 8, "ask", 3, 0, 0, 1)), ())
        self.assertEqual(house.waits, (2, 1, 3))
        house.take((0, 4, "hold", 0, 1, 1))
        self.assertEqual(house.take((0, 4, "yes", 0)), ((4, 0, "done", 0), (7, 0, "answer", 2, 0, 2, 1), (6, 0, "answer", 1, 0, 2, 1)))
        self.assertEqual(house.waits, (3,))

    def test_who_hears_gone(self):
        house = House(0, COIN, "laid by", beside_table(COIN), Disk(32))
        house.take((0, 5, "ask", 0, 0, 0, 1))
        house.take((0, 6, "ask", 0, 1, 0, 1))
        house.take((0, 7, "ask", 0, 0, 0, 1))
        self.assertEqual(house.drop(0), ((6, 0, "gone", 0, 1),))
        self.assertEqual(house.take((0, 8, "ask", 0, 0, 0, 1)), ((8, 0, "gone", 0, 1),))
        self.assertEqual(house.drop(0), ())

    def test_holds_that_do_not_fit(self):
        def asked():
            house = House(0, COIN, "in place", back_table(COIN), Disk(32))
            house.take((0, 5, "ask", 0, 0, 0, 1))
            house.take((0, 5, "ask", 1, 0, 0, 1))
            return house
        for hold, wanted in (((0, 1, 1), "held"), ((0, 2, 1), "barred"), ((0, 1, 2), "barred"), ((1, 1, 1), "barred"), ((7, 1, 1), "barred")):
            house = asked()
            told = house.take((0, 4, "hold") + hold)
            self.assertEqual(told[0], (4, 0, wanted, hold[0]))
            self.assertEqual(house.holding, (0,) if wanted == "held" else ())
            self.assertEqual(house.working, {0: (1,), 1: (0,), 7: (0, 1)}[hold[0]])
            self.assertEqual(house.take((0, 4, "hold") + hold)[0], told[0])

    def test_watched_houses_bar_what_is_not_let(self):
        house = House(0, COIN, "watched", (), Disk(32))
        for deal in (0, 1):
            self.assertEqual(house.take((0, 5, "ask", deal, 0, 0, 1)), ((5, 0, "answer", deal, 0, 0, 1),))
        self.assertEqual(house.take((0, 4, "hold", 0, 1, 1)), ((4, 0, "held", 0),))
        self.assertEqual(house.take((0, 4, "hold", 1, 1, 1)), ((4, 0, "barred", 1),))
        eight = House(0, shelf(2, 0), "watched", (), Disk(64))
        for deal in range(8):
            eight.take((0, 5, "ask", deal, 0, 0, 1))
            self.assertEqual(eight.take((0, 4, "hold", deal, 1, 1)), ((4, 0, "held" if deal < 7 else "barred", deal),))

    def test_what_no_room_does(self):
        for many, wanted in ((4, False), (5, False), (6, True)):
            house = House(0, COIN, "in place", (), Disk(many))
            self.assertEqual(len(house.take((0, 5, "ask", 0, 0, 0, 1))), int(wanted))
            self.assertEqual(house.waits, () if wanted else (0,))
            self.assertEqual(house.take((0, 4, "hold", 0, 1, 1)), ((4, 0, "barred", 0),))
            self.assertEqual((house.working, house.sweep(), house.log), ((), True, ()))
        house = House(0, counter(2), "in place", (), Disk(128))
        for number in range(62):
            self.assertEqual(len(house.take((0, 5, "ask", number // 6, number % 6, 0, 1))), int(number < 60))
        self.assertEqual(sum(1 for record in house.log if record[0] == "do"), 60)

    def test_folding(self):
        house = House(0, purse(3, 1), "in place", back_table(purse(3, 1)), Disk(16))
        for deal in range(3):
            house.take((0, 5, "ask", deal, 0, 0, 1))
            house.take((0, 4, "hold", deal, 1, 1))
            self.assertTrue(house.sweep())
            self.assertEqual(log_of(house.disk)[0], None if deal == 0 else min(3, deal + 1))
            house.take((0, 4, "yes", deal))
            self.assertTrue(house.sweep())
            self.assertEqual((log_of(house.disk), house.log), ((min(3, deal + 2), ()), ()))
            self.assertEqual(house.take((0, 5, "ask", deal, 0, 0, 1)), ((5, 0, "gone", deal, 1),))
        self.assertEqual((house.meaning([]), house.meaning([0, 1, 2])), (3, 3))
        house.cut([])
        self.assertTrue(house.rise())
        self.assertEqual(house.take((0, 6, "ask", 4, 0, 4, 2)), ((6, 0, "answer", 4, 0, 6, 2),))

    def test_a_watched_house_folds_to_one_state_alone(self):
        kind = shelf(2, 0)
        for asks, wanted in ((((0, 0), (1, 1)), None), (((0, 1), (1, 1)), 1), (((0, 0),), 0), ((), 0)):
            house = House(0, kind, "watched", (), Disk(32))
            for deal, ask in asks:
                house.take((0, 5, "ask", deal, 0, ask, 1))
            for deal, _ in asks:
                house.take((0, 4, "hold", deal, 1, 1))
            for deal, _ in asks:
                house.take((0, 4, "yes", deal))
            self.assertTrue(house.sweep())
            self.assertEqual(log_of(house.disk)[0], wanted)
            self.assertEqual(house.log == (), wanted is not None)
            self.assertEqual(house.meaning(()), 1 if wanted is None else wanted)

    def test_a_house_that_does_not_watch_folds_whatever_its_orders_leave(self):
        for way in ("in place", "laid by"):
            house = House(0, COIN, way, (), Disk(64))
            for deal in range(9):
                house.take((0, 5, "ask", deal, 0, 0, 1))
            for word in ("hold", "yes"):
                for deal in range(9):
                    house.take((0, 4, word, deal) + ((1, 1) if word == "hold" else ()))
            # Laid by each of them took the one coin; in place the first one did, and the others were told that there is none.
            self.assertEqual(sum(1 for record in house.log if record[0] == "yes"), 9)
            self.assertTrue(house.sweep())
            self.assertEqual(log_of(house.disk), ((0, ()) if way == "in place" else (None, house.log)))
            self.assertEqual(house.meaning(()), 0 if way == "in place" else None)

    def test_out(self):
        house = House(0, COIN, "in place", (), Disk(16))
        house.take((0, 5, "ask", 0, 0, 0, 1))
        house.cut([0])
        empty = ((), (), (), ())
        self.assertEqual(state_of(house), (1, False) + empty)
        self.assertEqual((house.take((0, 5, "ask", 1, 0, 0, 1)), house.drop(0), house.again(), house.sweep()), ((), (), (), False))
        self.assert_raises(BadValue("letter"), house.take, None)
        self.assert_raises(BadNumber("deal"), house.drop, 12)
        self.assertEqual(house.meaning([]), 1)
        house.fuse(1)
        self.assertIs(house.rise(), False)
        self.assertIs(house.rise(), True)
        self.assertIs(house.rise(), False)
        self.assertEqual((house.life, house.news()), (2, (("ask", 0, 0), ("answer", 0, 0), ("no", 0))))
        disk = Disk(16)
        disk.fuse(2)
        house = House(0, COIN, "in place", (), disk)
        self.assertEqual(state_of(house)[1:], (False,) + empty)
        self.assertIs(house.rise(), True)
        self.assertEqual(house.life, 1)

    def test_a_forced_ready_that_was_no_event(self):
        house = House(0, COIN, "in place", (), Disk(16))
        house.take((0, 5, "ask", 0, 0, 0, 1))
        house.fuse(2)
        self.assertEqual(house.take((0, 4, "hold", 0, 1, 1)), ())
        self.assertEqual((house.up, house.news()), (False, (("ask", 0, 0), ("answer", 0, 0))))
        house.cut([0, 1])
        self.assertTrue(house.rise())
        self.assertEqual((house.news(), house.again()), ((("ready", 0),), ((4, 0, "what", 0),)))
        house.fuse(2)
        self.assertEqual(house.take((0, 4, "yes", 0)), ())
        house.cut([0])
        self.assertTrue(house.rise())
        self.assertEqual((house.news(), house.holding, house.take((0, 4, "yes", 0))), ((("yes", 0),), (), ((4, 0, "done", 0),)))

    def test_errors(self):
        right = {"number": 0, "kind": COIN, "way": "in place", "table": (), "disk": Disk(4)}
        faults = [
            ("number", NO_NUMBERS + (-1, 4), BadNumber("number")), ("kind", NO_OBJECTS, BadKind("kind")), ("way", NO_WAYS, BadValue("way")),
            ("table", [table for table in NO_TABLES if table != []], BadTable("table")),
            ("disk", NO_OBJECTS + (Journal(Disk(4)),), BadValue("disk")),
        ]
        for way in WAYS:
            self.assert_faults(House, {**right, "way": way}, faults)
        house = House(1, COIN, "in place", (), Disk(16))
        house.take((1, 5, "ask", 0, 0, 0, 1))
        before = (state_of(house), house.disk.kept(), house.disk.waiting())
        letters = NO_ROWS + (
            (), (0, 5, "ask", 0, 1, 0, 1), (1, 5, "ask", 0, 1, 1, 1), (1, 5, "ask", 0, 1, 7, 1), (1, 5, "ask", 0, 1, 8, 1), (1, 5, "ask", 12, 1, 0, 1),
            (1, 5, "ask", 0, 1, 0, 0), (5, 1, "answer", 0, 0, 0, 1), (4, 1, "held", 0), (1, 4, "hold", 0, 0, 1), (1, 5, "yes", 0), (1, 0, "no", 0),
            (True, 5, "ask", 0, 1, 0, 1), (1, 5, "gone", 0, 1),
        )
        for letter in letters:
            self.assert_raises(BadValue("letter"), house.take, letter)
        for deal in NO_NUMBERS + (-1, 12):
            self.assert_raises(BadNumber("deal"), house.drop, deal)
        for lot in NO_ROWS + ([12], [1, 0], [0, 0], [True], [-1], [None]):
            self.assert_raises(BadLot("ended"), house.meaning, lot)
        for lot in NO_ROWS + ([1], [True], [0, 0]):
            self.assert_raises(BadLot("lands"), house.cut, lot, None)
            self.assert_raises(BadLot("torn"), house.cut, [0], torn=lot)
        self.assert_raises(Misfit("torn"), house.cut, lands=[0], torn=[0])
        for many in NO_NUMBERS + (0, -1):
            self.assert_raises(BadNumber("many"), house.fuse, many)
        for value in NO_OBJECTS + (house, Teller(Disk(4))):
            self.assert_raises(BadValue("disk"), log_of, value)
        self.assertEqual((state_of(house), house.disk.kept(), house.disk.waiting()), before)
        self.assertEqual(house.take(letter=[1, 5, "ask", 0, 1, 0, 1]), ((5, 1, "answer", 0, 1, 1, 1),))
        self.assertEqual((house.drop(deal=0), house.meaning(ended=[11]), log_of(disk=house.disk)), (((5, 1, "gone", 0, 1),), 1, (None, ())))
        house.fuse(many=1)
        house.cut(lands=(), torn=())

    def test_disks_of_other_things(self):
        disk = Disk(16)
        journal = Journal(disk)
        for record in ([], [0], [0, 0], [1, 0], [7, 0], [1, 12], [1, 3, 3], [0, 3, 0, 0], [-1, 3], [1, 3]):
            if journal.room:
                journal.put(record)
        journal.force()
        self.assertIsInstance(log_of(disk)[1], tuple)
        Teller(Disk(16)).take((4, 5, "end", 0, 1, []))
        desk = Teller(Disk(16))
        desk.take((4, 5, "end", 0, 1, []))
        self.assertEqual(log_of(desk.disk), (None, ()))

    def test_at_the_greatest_size(self):
        def long_run(way):
            kind = great_kind()
            house = House(0, kind, way, (), Disk(128))
            for number in range(50):
                house.take((0, 5, "ask", number % 10, number // 10, number % 5, 1))
            for deal in range(10):
                house.take((0, 4, "hold", deal, 5, 1))
            for deal in range(10):
                house.take((0, 4, "yes" if deal < 5 else "no", deal))
                house.meaning([0, 1, 2])
            house.sweep()
            return house.news()
        for way in WAYS:
            self.assertGreater(len(self.assert_short(long_run, way)), 100)


if __name__ == "__main__":
    unittest.main()
