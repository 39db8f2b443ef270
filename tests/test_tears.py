"""Tears, played: programs and scripts written by the test itself, letter by letter, and what comes of them."""

import random
import unittest

from ownseen.clashes import back_table, beside_table
from ownseen.errors import BadKind, BadTable, BadValue, Impossible, Misfit, TooMany
from ownseen.joins import joined
from ownseen.kinds import Kind
from ownseen.makers import bag, counter, line, purse, shelf, tickets
from ownseen.tables import Enough, is_enough
from ownseen.tears import played_tear, tear_of
from ownseen.weaves import order_of_all
from ownseen.worlds import World

from tests.helper import (
    NO_OBJECTS, SeenTest, chain, great_kind, listed, made_kinds, plain_left, plain_table, some_kind, strict, two_chains,
)
from tests.plain_worlds import PlainWorld
from tests.test_logs import NO_WAYS
from tests.test_ways import NO_TABLES

COIN = Kind(["take"], ["done", "short"], 2, 1, [(0, 0, 1, 0), (1, 0, 0, 0)])


def is_plain_sure(kind):
    return len(kind.rows) == kind.states * len(kind.asks)


def log_deals(log):
    """For each deal of the log its asks."""
    told = {}
    for record in log:
        told.setdefault(record[1], [])
        if record[0] == "do":
            told[record[1]].append(record[2])
    return dict(sorted(told.items()))


def plain_script(program, log):
    """The script, by the words: what is brought is looked for in a plain world."""
    plain, script, asks = PlainWorld(program), [], log_deals(log)
    hands = {deal: at for at, deal in enumerate(asks)}
    yeses = [record[1] for record in log if record[0] == "yes" and record[1] in (1, 2)]
    early, late = yeses[1], yeses[0]
    stays = []

    def step(*told):
        script.append(told)
        plain.step(told)

    def bring():
        places = [at for at, letter in enumerate(plain.bag) if letter not in stays]
        step("bring", places[0])

    def ask(deal):
        step("send", hands[deal])
        bring()
        bring()

    def end(deal):
        step("send", hands[deal])
        while [letter for letter in plain.bag if letter not in stays]:
            bring()

    def all_of(deal):
        for _ in asks[deal] + [0]:
            ask(deal)
        end(deal)

    if 0 in asks:
        all_of(0)
    ask(1)
    ask(2)
    ask(early)
    stays.append((0, 4, "yes", hands[early]))
    end(early)
    ask(late)
    end(late)
    stays.clear()
    step("bring", 0)
    step("bring", 0)
    if 3 in asks:
        all_of(3)
    return tuple(script)


def some_cases(seed, many):
    """Rows (kind, way, table) of sure kinds whose tables lack a pair or more."""
    dice, told = random.Random(seed), []
    makers = [kind for kind in made_kinds() if is_plain_sure(kind)] + [COIN, two_chains(3), chain(4), purse(3, 2), line(2, 1)]
    while len(told) < many:
        kind = dice.choice(makers) if dice.random() < 0.6 else some_kind(dice, states=4, asks=3, answers=3, sure=True)
        way = dice.choice(("in place", "laid by"))
        full = plain_table(kind, way)
        if full:
            lacking = dice.sample(full, dice.choice((1, 1, 2, len(full))) if len(full) > 1 else 1)
            told.append((kind, way, [pair for pair in full if pair not in lacking]))
    return told


class TearsTest(SeenTest):
    def test_tears_made_in_many_ways(self):
        counts = {}
        for kind, way, table in some_cases(11, 160):
            log = is_enough(kind, way, table).log
            asks = log_deals(log)
            if max(map(len, asks.values())) > 5:
                self.assert_raises(TooMany("steps", 6), tear_of, kind, way, table)
                self.assert_raises(TooMany("steps", 6), played_tear, kind, way, table)
                continue
            program, script = tear_of(kind, way, listed(table))
            many = len(asks)
            self.assertEqual(program.houses, ((kind, way, tuple(table)), (tickets(many), "in place", plain_table(tickets(many), "in place"))))
            self.assertEqual(program.hands, tuple((tuple((0, ask) for ask in told) + ((1, 0),),) for told in asks.values()))
            self.assertEqual(strict(script), strict(plain_script(program, log)))
            world = played_tear(kind, way, table)
            self.assertTrue(world.program == program)
            again = World(program)
            self.assertEqual(again.run(script), len(script))
            self.assertTrue(again.weave() == world.weave() == world.settled())
            self.assert_torn(world, log, asks)
            place = (way, 0 in asks, 3 in asks)
            counts[place] = counts.get(place, 0) + 1
        for way in ("in place", "laid by"):
            for before in (False, True):
                self.assertGreater(counts.get((way, before, False), 0), 8, counts)
        self.assertGreater(sum(many for place, many in counts.items() if place[2]), 2, counts)

    def assert_torn(self, world, log, asks):
        """All deals hear yes, are answered as the log tells, and no order fits."""
        self.assertEqual((world.letters(), world.out(), [verdict for _, verdict in world.heard()]), ((), (), [1] * len(asks)))
        for (answers, _), deal in zip(world.heard(), asks):
            self.assertEqual(answers[:-1], tuple(record[3] for record in log if record[:2] == ("do", deal)))
        self.assertEqual(sorted(answers[-1] for answers, _ in world.heard()), list(range(len(asks))))
        weave = world.weave()
        self.assertFalse(order_of_all(weave))
        self.assertEqual((joined(weave).house, len(weave.ended)), (0, len(asks)))
        order = sorted(range(len(asks)), key=lambda deal: world.heard()[deal][0][-1])
        events = [(event[0],) + event[2:] for event in weave.events if event[1] == 0]
        self.assertIsNone(plain_left(world.program.houses[0][0], events, order))

    def test_tables_that_are_enough(self):
        for kind in [kind for kind in made_kinds() if is_plain_sure(kind)] + [COIN]:
            for way, table in (("in place", back_table(kind)), ("laid by", beside_table(kind))):
                paper = is_enough(kind, way, table)
                self.assertIs(type(paper), Enough)
                self.assert_raises(Impossible(paper), tear_of, kind, way, table)
                self.assert_raises(Impossible(paper), played_tear, kind=kind, way=way, table=table)

    def test_deals_of_six_steps_and_more(self):
        for states, way in ((6, "in place"), (7, "in place"), (8, "in place"), (40, "in place"), (60, "in place"), (7, "laid by"), (60, "laid by")):
            kind = chain(states)
            try:
                longest = max(map(len, log_deals(is_enough(kind, way, ()).log).values()))
            except TooMany:
                longest = 99
            if longest > 5:
                self.assert_raises(TooMany("steps", 6), tear_of, kind, way, ())
                self.assert_raises(TooMany("steps", 6), played_tear, kind, way, ())
            else:
                self.assertEqual(len(tear_of(kind, way, ())[0].deals), 3)
        self.assertEqual([len(deal) for deal in tear_of(chain(7), "in place", ())[0].deals], [6, 2, 2])
        self.assert_raises(TooMany("steps", 6), tear_of, chain(8), "in place", ())
        self.assert_raises(TooMany("steps", 6), tear_of, two_chains(8), "laid by", ())

    def test_errors(self):
        right = {"kind": COIN, "way": "in place", "table": ()}
        unsure = (bag(2, 2),) + tuple(kind for kind in [some_kind(random.Random(seed)) for seed in range(30)] if not is_plain_sure(kind))
        for function in (tear_of, played_tear):
            self.assert_faults(function, right, [
                ("kind", NO_OBJECTS, BadKind("kind")), ("way", NO_WAYS + ("watched",), BadValue("way")),
                ("table", [table for table in NO_TABLES if table != []], BadTable("table")),
            ])
            for kind in unsure:
                self.assert_raises(Misfit("kind"), function, kind, "in place", ())
                self.assert_raises(Misfit("kind"), function, kind, "laid by", beside_table(kind))
                self.assert_raises(BadTable("table"), function, kind, "laid by", None)
        table = [[[0, 1], [0, 1]]]
        first = tear_of(COIN, "in place", table)
        self.assertEqual(table, [[[0, 1], [0, 1]]])
        self.assertTrue(first == tear_of(COIN, "in place", (((0, 1), (0, 1)),)))

    def test_at_the_greatest_size(self):
        kind = great_kind()
        sure = Kind(kind.asks, ["x"], 60, 0, [(row[0], row[1], 0, row[3]) for row in kind.rows if row[2] == 0])
        turning = counter(10)
        for kind in (sure, turning, shelf(7, 0), purse(8, 4)):
            for way in ("in place", "laid by"):
                try:
                    self.assert_short(played_tear, kind, way, ())
                except (TooMany, Impossible):
                    pass


if __name__ == "__main__":
    unittest.main()
