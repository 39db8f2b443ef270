"""Worlds, held against a plain model step by step, and against what the Facts tell of every script."""

import random
import unittest

from ownseen.accords import accord
from ownseen.alike import alike_classes
from ownseen.clashes import back_table
from ownseen.errors import BadScript, BadValue
from ownseen.joins import joined
from ownseen.kinds import Kind, is_sure
from ownseen.makers import purse, shelf, tickets
from ownseen.programs import Program
from ownseen.scripts import is_script
from ownseen.weaves import Weave, fits_all, order_of_all
from ownseen.worlds import World

from tests.helper import (
    NO_OBJECTS, NO_ROWS, SeenTest, bare, bends, deals_with, listed, plain_break, plain_holds, plain_lots, play, ready_deals, strict,
    weave_stands, works_by,
)
from tests.plain_worlds import PlainWorld, live_step, plain_last_order, some_program, some_script

COIN = Kind(["take"], ["done", "short"], 2, 1, [(0, 0, 1, 0), (1, 0, 0, 0)])
SAFE = (COIN, "in place", back_table(COIN))
GATE = (tickets(2), "in place", back_table(tickets(2)))


def state_of(world):
    return (world.letters(), world.heard(), world.lives(), world.out(), world.weave().events, world.meanings())


def events_at(events, house):
    """The history at a house, with the yeses that only came elsewhere behind it."""
    mine = [bare(event) for event in events if event[1] == house]
    deals = {event[1] for event in mine}
    elsewhere = sorted({event[2] for event in events if event[0] == "yes" and event[2] in deals})
    return mine + [("yes", deal) for deal in elsewhere if ("yes", deal) not in mine]


class ModelTest(SeenTest):
    def assert_same(self, world, plain):
        self.assertEqual(world.letters(), tuple(plain.bag))
        self.assertEqual(world.heard(), plain.heard())
        self.assertEqual((world.lives(), world.out()), (plain.lives(), plain.out()))

    def assert_same_whole(self, world, plain):
        self.assert_same(world, plain)
        self.assertEqual(world.weave(), Weave([row[0] for row in world.program.houses], plain.events))
        self.assertEqual(world.settled(), Weave([row[0] for row in world.program.houses], plain.settled_events()))
        self.assertEqual(world.order(), plain_last_order(plain.settled_events()))
        self.assertEqual(world.meanings(), plain.meanings())

    def test_step_by_step(self):
        counts, full, rounds = {}, 0, {}
        for seed in range(110):
            dice = random.Random(seed)
            program = some_program(dice, enough=0.8)
            world, plain = World(program), PlainWorld(program)
            for told in some_script(dice, most=320):
                told = live_step(dice, plain) if dice.random() < 0.15 else told
                did, wanted = world.step(told), plain.step(told)
                self.assertIs(did, wanted, (seed, told))
                self.assert_same(world, plain)
                counts[told[0], did] = counts.get((told[0], did), 0) + 1
                full += len(plain.bag) == 40
            self.assert_same_whole(world, plain)
            many = world.calm()
            self.assertEqual(many, plain.calm())
            self.assert_same_whole(world, plain)
            self.assertEqual(world.calm(), 0)
            self.assert_same_whole(world, plain)
            rounds[many] = rounds.get(many, 0) + 1
        for word in ("send", "bring", "lose", "twice", "fuse", "rise", "drop", "again", "sweep", "quit"):
            for did in (True, False):
                self.assertGreater(counts.get((word, did), 0), 10, (word, did, counts))
        self.assertGreater(counts["cut", True], 50)
        self.assertGreater(full, 20)
        self.assertGreater(len(rounds), 5)

    def test_run_is_all_steps(self):
        for seed in range(60):
            dice = random.Random(seed)
            program, script = some_program(dice), some_script(dice, most=200)
            one, other = World(program), World(program=program)
            did = sum([one.step(told) for told in script])
            self.assertEqual(other.run(listed(script)), did)
            self.assertEqual(strict(state_of(one)), strict(state_of(other)))


class FactsTest(SeenTest):
    def assert_own(self, kind, events):
        """The house always keeps the own rule, by a plain listing of orders."""
        if len(deals_with(events, "yes") + ready_deals(events)) < 6:
            for lot in plain_lots(ready_deals(events)):
                self.assertIsNone(plain_break(kind, events + [("yes", deal) for deal in lot]))

    def assert_fine(self, world, first_yes):
        """What is told of every moment; first_yes has for each deal how many events there were when it heard yes."""
        program, settled, order = world.program, world.settled(), world.order()
        kinds = [row[0] for row in program.houses]
        for place, event in enumerate(settled.events):
            if place % 7 == 0:
                self.assertTrue(weave_stands(kinds, list(settled.events[:place]), event))
        for house, kind in enumerate(kinds):
            history = events_at(settled.events, house)
            mine = [deal for deal in order if deal in deals_with(history, "yes")]
            self.assertTrue(plain_holds(history, mine))
            self.assertIsNotNone(play(kind, kind.first, [work for deal in mine for work in works_by(history, deal)]))
            self.assert_own(kind, [bare(event) for event in world.weave().events if event[1] == house])
        self.assertTrue(fits_all(settled, order))
        for deal, (answers, verdict) in enumerate(world.heard()):
            if verdict is not None:
                self.assertEqual(deal in order, verdict == 1)
            for other, many in first_yes.items():
                begins = [place for place, event in enumerate(settled.events) if event[2] == deal]
                if deal != other and deal in order and begins and begins[0] >= many:
                    self.assertLess(order.index(other), order.index(deal))
        self.assertTrue(accord(world.teller.disk, [house.disk for house in world.houses]))

    def assert_calm(self, world):
        order, settled = world.order(), world.settled()
        self.assertEqual(settled, world.weave())
        self.assertEqual((world.out(), world.calm()), ((), 0))
        for house, (kind, way, _) in enumerate(world.program.houses):
            history, meant = events_at(settled.events, house), world.meanings()[house]
            left = play(kind, kind.first, [work for deal in order for work in works_by(history, deal)])
            if way == "laid by" or (way == "in place" and is_sure(kind)):
                self.assertTrue(any(meant in lot and left in lot for lot in alike_classes(kind)))
            words = {}
            for event in history:
                words.setdefault(event[1], []).append(event[0])
            self.assertTrue(all({"yes", "no"} & set(told) for told in words.values()))
        for answers, verdict in world.heard():
            self.assertIn(verdict, (0, 1))

    def test_scripts_made_in_many_ways(self):
        counts = {"yes": 0, "no": 0, "ahead": 0}
        for seed in range(260):
            dice = random.Random(5000 + seed)
            world = World(some_program(dice))
            first_yes = {}
            for number, told in enumerate(some_script(dice, most=240)):
                world.step(told)
                for deal, (_, verdict) in enumerate(world.heard()):
                    if verdict == 1 and deal not in first_yes:
                        first_yes[deal] = len(world.weave().events)
                        counts["ahead"] += 1
                if number % 40 == 0:
                    self.assert_fine(world, first_yes)
            self.assert_fine(world, first_yes)
            world.calm()
            self.assert_fine(world, first_yes)
            self.assert_calm(world)
            if len(world.weave().ended) < 8:
                self.assertTrue(joined(world.weave()))
                self.assertTrue(order_of_all(world.weave()))
            for _, verdict in world.heard():
                counts["yes" if verdict else "no"] += 1
        self.assertGreater(min(counts.values()), 100, counts)

    def test_at_the_greatest_size(self):
        def long_run(seed):
            dice = random.Random(seed)
            kinds = (purse(8, 4), tickets(8), shelf(7, 0))
            houses = [(kind, way, ()) for kind, way in zip(kinds + (purse(2, 1),), ("watched", "in place", "laid by", "watched"))]
            deals = [[(dice.randrange(4), dice.randrange(1)) for _ in range(6)] for _ in range(8)]
            world = World(Program(houses, [deals[0:2], deals[2:4], deals[4:6], deals[6:8]]))
            world.run(some_script(dice, most=400))
            world.run([("send", k % 4) if k % 3 else ("bring", k) for k in range(400)])
            return world.calm()
        for seed in range(4):
            self.assertGreaterEqual(self.assert_short(long_run, seed), 1)


def brought(world, many=1):
    world.run([("bring", 0)] * many)


class StepTest(SeenTest):
    def world(self, hands=(((0, 0), (1, 0)),)):
        return World(Program([SAFE, GATE], [[deal] for deal in hands]))

    def test_a_new_world(self):
        world = World(Program([SAFE], [[], [[(0, 0)]], []]))
        self.assertEqual(state_of(world), ((), (((), None),), (1, 1), (), (), (1,)))
        self.assertEqual((world.order(), world.settled(), world.weave()), ((), Weave([COIN], []), Weave([COIN], [])))
        self.assertEqual(World(Program([SAFE], [[]])).calm(), 0)

    def test_what_the_world_does_not_have(self):
        world = self.world()
        before = state_of(world)
        for told in (("send", 1), ("send", 3), ("cut", 2, 1), ("cut", 3, 0), ("fuse", 2, 1), ("rise", 3), ("again", 2), ("sweep", 2), ("drop", 2, 0),
                     ("drop", 0, 7), ("quit", 5), ("bring", 0), ("lose", 9), ("twice", 0), ("again", 4), ("again", 0), ("rise", 4), ("fuse", 0, 0)):
            self.assertIs(world.step(told), False, told)
        self.assertEqual(state_of(world), before)
        self.assertIs(world.step(("sweep", 1)), True)

    def test_letters_out_of_turn(self):
        world = self.world()
        world.run([("send", 0), ("send", 0), ("twice", 1), ("bring", 2), ("bring", 7)])
        ask, answer = (0, 5, "ask", 0, 0, 0, 1), (5, 0, "answer", 0, 0, 0, 1)
        self.assertEqual(world.letters(), (ask, answer, answer))
        self.assertEqual(world.run([("bring", 1), ("bring", 4), ("lose", 3)]), 3)
        self.assertEqual((world.letters(), world.heard()), ((answer,), (((0,), None),)))

    def test_no_more_than_forty_letters(self):
        world = self.world()
        self.assertEqual(world.run([("send", 0)] * 45), 45)
        self.assertEqual(len(world.letters()), 40)
        self.assertIs(world.step(("twice", 39)), True)
        self.assertEqual(len(world.letters()), 40)
        world.step(("bring", 0))
        self.assertEqual((len(world.letters()), world.letters()[-1][2]), (40, "answer"))
        lost = self.world()
        lost.run([("send", 0), ("bring", 0), ("bring", 0), ("send", 0), ("bring", 0), ("bring", 0)])
        lost.run([("send", 0)] * 41 + [("bring", 0)])
        self.assertEqual([letter[2] for letter in lost.letters()], ["end"] * 39 + ["hold"])

    def test_the_end_stays_as_it_was_sent_first(self):
        world = World(Program([SAFE], [[[(0, 0)]], [[(0, 0)]]]))
        world.run([("send", 0), ("bring", 0), ("bring", 0), ("send", 0), ("cut", 4, 0), ("bring", 0), ("rise", 4), ("send", 0)])
        self.assertEqual(world.letters(), ((4, 5, "end", 0, 1, ((0, 1, 1),)),))
        brought(world)
        self.assertEqual(world.letters(), ((5, 4, "told", 0, 0, 2),))
        brought(world)
        self.assertEqual((world.heard()[0], world.lives()), (((0,), 0), (1, 2)))

    def test_an_end_that_was_lost_with_a_full_bag_was_sent(self):
        world = World(Program([SAFE], [[[(0, 0)]]]))
        world.run([("send", 0), ("bring", 0), ("bring", 0), ("send", 0)] + [("twice", 0)] * 39 + [("cut", 4, 0), ("rise", 4), ("send", 0)])
        self.assertEqual(set(world.letters()), {(4, 5, "end", 0, 1, ((0, 1, 1),))})

    def test_gone_at_the_first_house(self):
        world = self.world()
        world.run([("cut", 0, 0), ("rise", 0), ("send", 0), ("bring", 0)])
        self.assertEqual(world.letters(), ((5, 0, "gone", 0, 2),))
        brought(world)
        self.assertEqual((world.letters(), world.heard()), ((), (((), 0),)))

    def test_gone_at_a_later_house(self):
        world = self.world((((0, 0), (1, 0), (0, 0)), ((0, 0),)))
        world.run([("send", 0), ("bring", 0), ("bring", 0), ("drop", 0, 0), ("send", 0), ("bring", 1), ("bring", 0)])
        self.assertEqual(world.letters(), ((5, 1, "answer", 0, 0, 0, 1), (1, 5, "no", 0)))
        self.assertEqual(world.heard()[0], ((0,), 0))
        brought(world, 2)
        self.assertEqual([event[0] for event in world.weave().events], ["ask", "answer", "no", "ask", "answer", "no"])
        # All its steps are answered, and no end was sent.
        world = self.world((((1, 0), (0, 0)),))
        world.run([("send", 0), ("bring", 0), ("bring", 0)] * 2 + [("drop", 1, 0), ("bring", 0)])
        self.assertEqual((world.letters(), world.heard()[0]), (((0, 5, "no", 0),), ((0, 0), 0)))

    def test_gone_behind_the_end(self):
        world = self.world((((0, 0),), ((0, 0),)))
        world.run([("send", 0), ("bring", 0), ("bring", 0), ("send", 0), ("drop", 0, 0), ("bring", 1)])
        self.assertEqual((world.letters(), world.heard()[0]), (((4, 5, "end", 0, 1, ((0, 1, 1),)),), ((0,), None)))
        brought(world, 3)
        self.assertEqual((world.letters()[-1], world.heard()[0][1]), ((5, 4, "told", 0, 0, 1), None))

    def test_a_hand_keeps_the_life_of_a_deal_and_learns_of_greater_ones(self):
        world = World(Program([SAFE, GATE], [[[(0, 0), (0, 0)], [(0, 0)], [(1, 0)]]]))
        world.run([("send", 0), ("twice", 0), ("bring", 0), ("bring", 1), ("cut", 0, 0), ("rise", 0), ("bring", 0), ("send", 0)])
        self.assertEqual(world.letters(), ((5, 0, "gone", 0, 2), (0, 5, "ask", 0, 1, 0, 1)))
        world.run([("lose", 0), ("bring", 0), ("bring", 0), ("send", 0)])
        self.assertEqual(world.letters(), ((0, 5, "ask", 1, 0, 0, 2),))
        # Thrown away or not: a gone of a deal that is over tells the life, too.
        world.run([("twice", 0), ("bring", 0), ("bring", 1), ("drop", 0, 1), ("cut", 0, 0), ("rise", 0), ("lose", 1), ("bring", 0)])
        self.assertEqual(world.letters(), ((5, 0, "gone", 1, 3),))

    def test_fuses(self):
        world = self.world()
        self.assertEqual([world.step(("fuse", 0, 1)), world.step(("fuse", 4, 9))], [True, True])
        world.run([("send", 0), ("bring", 0)])
        self.assertEqual((world.out(), world.letters(), world.lives()), ((0,), (), (1, 1, 1)))
        self.assertEqual([world.step(("fuse", 0, 1)), world.step(("rise", 0)), world.step(("rise", 0))], [False, True, False])
        self.assertEqual((world.lives(), [event[0] for event in world.weave().events]), ((2, 1, 1), ["ask", "no"]))

    def test_which_writes_land(self):
        for bits, wanted in ((0, 0), (1, 1), (2, 1), (3, 2), (4, 0), (7, 2), (2 ** 70 + 1, 1)):
            world = World(Program([(tickets(3), "watched", ())], [[[(0, 0)]], [[(0, 0)]]]))
            world.run([("send", 0), ("bring", 0), ("send", 1), ("bring", 1), ("cut", 0, bits)])
            blocks = world.houses[0].disk.kept()
            self.assertEqual(len([block for block in blocks[2:] if block]), wanted)

    def test_a_cut_at_a_node_that_is_out(self):
        world = self.world()
        self.assertEqual([world.step(("cut", node, 3)) for node in (0, 0, 4, 4, 1)], [True] * 5)
        self.assertEqual(world.out(), (0, 1, 4))
        self.assertEqual([world.step(("rise", node)) for node in (4, 0, 1, 1)], [True, True, True, False])
        self.assertEqual((world.lives(), world.out()), ((2, 2, 2), ()))

    def test_calm_brings_yeses_that_were_lost(self):
        """Every hand has heard, but a house waits for a yes that is under way no more."""
        world = World(Program([SAFE], [[[(0, 0)]]]))
        world.run([("send", 0), ("bring", 0), ("bring", 0), ("send", 0), ("bring", 0), ("bring", 0), ("bring", 0), ("lose", 0), ("bring", 0)])
        self.assertEqual((world.heard(), world.letters(), world.weave().ended), ((((0,), 1),), (), ()))
        self.assertEqual((world.order(), world.settled().events[-1]), ((0,), ("yes", 0, 0)))
        self.assertEqual((world.calm(), world.weave().ended, world.calm()), (1, (0,), 0))

    def test_what_happens_when_all_come_up_is_ahead_of_what_is_brought(self):
        world = self.world((((0, 0),), ((1, 0),)))
        world.run([("send", 1), ("bring", 0), ("cut", 1, 0), ("lose", 0)])
        world.calm()
        words = [event[:2] for event in world.weave().events]
        self.assertEqual(words[:5], [("ask", 1), ("answer", 1), ("no", 1), ("ask", 0), ("answer", 0)])

    def test_what_it_returns_is_not_its_own(self):
        world = self.world()
        world.run([("send", 0)])
        for told in (world.letters(), world.heard(), world.meanings(), world.lives(), world.out(), world.order()):
            self.assertIs(type(told), tuple)
        weave = world.weave()
        brought(world, 2)
        self.assertEqual((weave.events, len(world.weave().events)), ((), 2))

    def test_errors(self):
        for value in NO_OBJECTS + (World, [SAFE], World(Program([SAFE], [[]]))):
            self.assert_raises(BadValue("program"), World, value)
        world = self.world()
        world.run([("send", 0)])
        before = state_of(world)
        steps = [told for told in bends(("cut", 1, 5)) if not is_script([told])] + [told for told in bends(("send", 0)) if not is_script([told])]
        self.assertGreater(len(steps), 40)
        for told in steps:
            self.assert_raises(BadScript("told"), world.step, told)
            self.assert_raises(BadScript("script"), world.run, [("send", 0), ("bring", 0), told])
        for script in NO_ROWS + ([("send", 0)] * 401,):
            self.assert_raises(BadScript("script"), world.run, script)
        self.assertEqual(state_of(world), before)
        script = [["send", 0], ["bring", 0]]
        self.assertEqual((world.run(script=script), world.step(told=["send", 0])), (2, True))
        self.assertEqual(script, [["send", 0], ["bring", 0]])
        self.assertEqual(world.run([("send", 3)] * 400), 0)


if __name__ == "__main__":
    unittest.main()
