"""All that is told of a weave, in papers and in words; and runs as a person reads them."""

import random
import unittest
from itertools import permutations

from ownseen.desks import advice, audit
from ownseen.errors import BadValue, TooMany
from ownseen.joins import Lax
from ownseen.kinds import Kind
from ownseen.makers import chest, counter, purse, shelf, tickets
from ownseen.orders import Bars, Fits
from ownseen.own import Breaks, Keeps
from ownseen.programs import Program
from ownseen.stories import story
from ownseen.tears import played_tear
from ownseen.weaves import Weave
from ownseen.worlds import World

from tests.helper import (
    NO_OBJECTS, SeenTest, fitting_weave_events, plain_break, plain_left, plain_rooms, some_weave_events, deals_with, strict,
)
from tests.plain_worlds import plain_last_order, some_program, some_script
from tests.test_worlds import events_at

COIN = Kind(["take"], ["done", "short"], 2, 1, [(0, 0, 1, 0), (1, 0, 0, 0)])
KINDS = (COIN, shelf(2, 0), purse(2, 1), counter(2), chest(2), tickets(3))


def some_weaves(seed, many):
    dice, told = random.Random(seed), []
    for number in range(many):
        kinds = [dice.choice(KINDS) for _ in range(dice.randint(1, 4))]
        deals = sorted(dice.sample(range(12), dice.randint(1, 4)))
        if number % 4:
            told.append((kinds, fitting_weave_events(dice, kinds, deals)))
        else:
            told.append((kinds, some_weave_events(dice, kinds, deals, 24)))
    return told


def plain_orders(kinds, events):
    """All orders of the ended deals that fit at each house, the least one first."""
    rows = [(kind, events_at(events, house)) for house, kind in enumerate(kinds)]
    ended = sorted({event[2] for event in events if event[0] == "yes"})
    fine = lambda kind, own, order: plain_left(kind, own, [deal for deal in order if deal in deals_with(own, "yes")]) is not None
    return [order for order in permutations(ended) if all(fine(kind, own, order) for kind, own in rows)]


class DesksTest(SeenTest):
    def test_weaves_made_in_many_ways(self):
        counts = {}
        for kinds, events in some_weaves(31, 260):
            weave = Weave(kinds, events)
            papers, words = audit(weave), []
            self.assertEqual(len(papers), len(kinds) + 2)
            breaks = [plain_break(kind, events_at(events, house)) for house, kind in enumerate(kinds)]
            for house, order in enumerate(breaks):
                own = events_at(events, house)
                self.assertEqual(papers[house], Keeps(plain_rooms(kinds[house], own)) if order is None else Breaks(order))
                words.append(f"house {house} keeps its own rule" if order is None
                             else f"house {house} breaks its own rule: " + " ".join(map(str, order)))
            lax = [(house, order) for house, order in enumerate(breaks) if order is not None]
            self.assertEqual(papers[-2], Lax(*lax[0]) if lax else Fits(plain_last_order(events)))
            orders = plain_orders(kinds, events)
            self.assertIs(type(papers[-1]), Fits if orders else Bars)
            if orders:
                self.assertEqual(papers[-1].order, orders[0])
            words.append(" ".join(["one order fits:", *map(str, orders[0])]) if orders else "no order fits")
            self.assertEqual(strict(advice(weave)), strict(words))
            self.assertIs(type(advice(weave=weave)), tuple)
            self.assertIs(type(papers), tuple)
            place = (bool(lax), bool(orders))
            counts[place] = counts.get(place, 0) + 1
        for place in ((False, True), (True, True), (True, False)):
            self.assertGreater(counts.get(place, 0), 10, counts)
        self.assertNotIn((False, False), counts)

    def test_without_deals(self):
        self.assertEqual(advice(Weave([COIN], [])), ("house 0 keeps its own rule", "one order fits:"))
        self.assertEqual([paper.parts for paper in audit(Weave([COIN], []))], [((((), (1,)),),), ((),), ((),)])

    def test_what_no_order_fits(self):
        self.assertEqual(advice(played_tear(COIN, "laid by", ()).weave())[1:], ("house 1 keeps its own rule", "no order fits"))

    def test_errors(self):
        for function in (audit, advice):
            for value in NO_OBJECTS + (World(Program([(COIN, "watched", ())], [[]])),):
                self.assert_raises(BadValue("weave"), function, value)
        ready = lambda house, deals: [(word, house, deal) for deal in deals for word in ("ready", "yes")]
        for events, many in ((ready(0, range(7)), 7), (ready(0, range(8)), 8), (ready(0, range(4)) + ready(1, range(4, 8)), 8)):
            weave = Weave([COIN, COIN], events)
            for function in (audit, advice):
                if many == 8:
                    self.assert_raises(TooMany("deals", 7), function, weave)
                else:
                    self.assertTrue(function(weave))
        asks = [event for deal in range(8) for number in range(7) for event in (("ask", 1, deal, 0), ("answer", 1, deal, 1))]
        long = asks + [("ready", 1, deal) for deal in range(8)] + [("ready", 0, deal) for deal in range(8)]
        # What is told of events comes ahead of what is told of deals.
        weave = Weave([COIN, COIN], long + [("yes", 0, deal) for deal in range(8)])
        for function in (audit, advice):
            self.assert_raises(TooMany("events", 120), function, weave)
        weave = Weave([COIN, COIN], asks[:112] + [("ready", 1, deal) for deal in range(8)] + [("ready", 0, 0), ("yes", 0, 0)])
        for function in (audit, advice):
            self.assert_raises(TooMany("events", 120), function, weave)

    def test_at_the_greatest_size(self):
        dice = random.Random(41)
        kinds = [purse(8, 4), shelf(7, 0), counter(10), tickets(11)]
        for _ in range(3):
            weave = Weave(kinds, fitting_weave_events(dice, kinds, range(7), most=3))
            self.assert_short(audit, weave)
            self.assert_short(advice, weave)


class StoriesTest(SeenTest):
    def test_each_event_in_words(self):
        world = World(Program([(COIN, "in place", ()), (shelf(2, 0), "laid by", ())], [[[(0, 0), (1, 2)]], [[(1, 1)]]]))
        world.run([("send", 0), ("bring", 0), ("bring", 0), ("send", 0), ("bring", 0), ("bring", 0), ("send", 0)] + [("bring", 0)] * 4)
        world.run([("send", 1), ("bring", len(world.letters())), ("drop", 1, 1)] + [("bring", 0)] * 9)
        told = story(world)
        self.assertEqual(strict(told[:5]), strict((
            "deal 0 asks house 0: take", "house 0 answers deal 0: done", "deal 0 asks house 1: read", "house 1 answers deal 0: n0",
            "house 0 is ready for deal 0",
        )))
        for line in ("house 1 is ready for deal 0", "yes for deal 0 at house 0", "yes for deal 0 at house 1", "deal 1 asks house 1: set1", "no for deal 1 at house 1"):
            self.assertIn(line, told)

    def test_stories_made_in_many_ways(self):
        for seed in range(60):
            dice = random.Random(seed)
            world = World(some_program(dice))
            world.run(some_script(dice))
            lines, events = story(world=world), world.weave().events
            self.assertEqual(len(lines), len(events))
            for line, event in zip(lines, events):
                kind = world.program.houses[event[1]][0]
                wanted = {
                    "ask": lambda: f"deal {event[2]} asks house {event[1]}: {kind.asks[event[3]]}",
                    "answer": lambda: f"house {event[1]} answers deal {event[2]}: {kind.answers[event[3]]}",
                    "ready": lambda: f"house {event[1]} is ready for deal {event[2]}",
                    "yes": lambda: f"yes for deal {event[2]} at house {event[1]}",
                    "no": lambda: f"no for deal {event[2]} at house {event[1]}",
                }[event[0]]()
                self.assertEqual(line, wanted)

    def test_errors(self):
        self.assertEqual(story(World(Program([(COIN, "watched", ())], [[]]))), ())
        for value in NO_OBJECTS + (Program([(COIN, "watched", ())], [[]]), Weave([COIN], []), World):
            self.assert_raises(BadValue("world"), story, value)


if __name__ == "__main__":
    unittest.main()
