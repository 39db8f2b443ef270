"""Papers about operations that are turned round, and about tables: right ones and bent ones."""

import random
import unittest

from ownseen.check_ways import shows_back, shows_beside, shows_enough
from ownseen.clashes import Goes, Jars, Sticks, back_table, beside_table, goes_back, goes_beside
from ownseen.errors import BadKind, BadNumber, BadTable, BadValue
from ownseen.kinds import Kind
from ownseen.makers import bag, purse, shelf
from ownseen.papers import Denial, Paper
from ownseen.tables import Enough, Lacks, is_enough

from tests.helper import (
    NO_NUMBERS, NO_OBJECTS, NO_ROWS, SeenTest, all_works, back_pairs, bends, beside_pairs, can_all_pairs, chain, deals_of_log,
    events_of_log, great_kind, is_plain_lot, listed, log_stands, made_kinds, plain_break, plain_clash, plain_reachable, plain_stray,
    plain_table, play, some_kind, some_log, step, strict, two_chains,
)
from tests.test_clashes import lists_of, wide_kind
from tests.test_logs import NO_WAYS
from tests.test_tables import TABLE_WAYS, kinds_made
from tests.test_ways import NO_TABLES

BOX = Kind(["put", "take"], ["ok", "short"], 2, 0, [(0, 0, 0, 1), (0, 1, 1, 0), (1, 0, 0, 1), (1, 1, 0, 0)])
KINDS = kinds_made(211, 60) + [BOX, chain(4), shelf(2, 0)]
OTHERS = NO_OBJECTS + NO_ROWS + (Paper("goes", [0, 1], []), Denial("sticks", [], []), Goes, Enough, Lacks)


def plain_grounds(kind, places, pairs):
    """Whether any values are a lot of states out of which nothing leads, the first among them, and carried pairs."""
    if not is_plain_lot(places, kind.states) or kind.first not in places:
        return False
    if not isinstance(pairs, (list, tuple)) or not all(isinstance(pair, (list, tuple)) and len(pair) == 2 for pair in pairs):
        return False
    if not all(type(state) is int and 0 <= state < kind.states for pair in pairs for state in pair):
        return False
    among = [tuple(pair) for pair in pairs]
    for work in all_works(kind):
        if any(step(kind, state, work) not in tuple(places) + (None,) for state in places):
            return False
        for one, other in among:
            to = (step(kind, one, work), step(kind, other, work))
            if to[0] is not None and to not in among:
                return False
    return True


def plain_goes(kind, turned, new, held, places, pairs):
    """Whether any values are the parts of a right Goes; turned tells the pairs that must be among these."""
    if not plain_grounds(kind, places, pairs):
        return False
    among = [tuple(pair) for pair in pairs]
    return all(pair in among for pair in turned(kind, new, held, places))


def are_works(kind, value):
    """Whether it is a row of operations of the kind."""
    return isinstance(value, (list, tuple)) and all(strict(work) in [strict(told) for told in all_works(kind)] for work in value)


def plain_sticks(kind, new, held, before, behind):
    if not are_works(kind, before) or not are_works(kind, behind):
        return False
    before, behind = list(map(tuple, before)), list(map(tuple, behind))
    return play(kind, kind.first, before + [held, new] + behind) is not None \
        and play(kind, kind.first, before + [new, held] + behind) is None


def plain_jars(kind, one, other, parts):
    before, first, second, behind = parts
    if not are_works(kind, before) or not are_works(kind, behind) or not are_works(kind, (first, second)):
        return False
    first, second, behind = tuple(first), tuple(second), list(map(tuple, behind))
    if sorted([first, second]) != sorted([one, other]):
        return False
    state = play(kind, kind.first, list(map(tuple, before)))
    if state is None or step(kind, state, first) is None or step(kind, state, second) is None:
        return False
    if play(kind, state, [first, second] + behind) is not None:
        return False
    return not behind or play(kind, state, [second, first] + behind) is not None


def wider_goes(dice, kind, places, pairs):
    """Parts of a Goes with more states and pairs, in any order, perhaps with some of them left out."""
    more = [(dice.randrange(kind.states), dice.randrange(kind.states)) for _ in range(dice.randint(0, 2))]
    some = list(pairs) + list(pairs[:1]) + more + [(state, state) for state in range(kind.states) if dice.random() < 0.7]
    dice.shuffle(some)
    every = sorted(set(places) | {state for state in range(kind.states) if dice.random() < 0.4})
    return [(places, some), (every, some), (every, pairs), (every[1:], some), (places, some[1:])]


class ShowsBackTest(SeenTest):
    def test_answers_and_other_goes(self):
        dice, counts = random.Random(212), {}
        for kind in KINDS:
            full = [(one, other) for one in range(kind.states) for other in range(kind.states)]
            for new in all_works(kind):
                for held in all_works(kind):
                    told = goes_back(kind, new, held)
                    self.assertIs(shows_back(kind, new, held, told), True)
                    self.assertIs(shows_back(kind=kind, new=list(new), held=list(held), value=type(told)(*listed(told.parts))), True)
                    parts = told.parts if told else (plain_reachable(kind), ())
                    for places, pairs in wider_goes(dice, kind, *parts) + [(list(range(kind.states)), full)]:
                        wanted = plain_goes(kind, back_pairs, new, held, places, pairs)
                        self.assertIs(shows_back(kind, new, held, Goes(places, pairs)), wanted)
                        counts[wanted, bool(told)] = counts.get((wanted, bool(told)), 0) + 1
        self.assertEqual(counts.pop((True, False), 0), 0)
        self.assertGreater(min(counts.values()), 100)

    def test_any_sticks(self):
        counts = [0, 0]
        for kind in KINDS[:30]:
            for new in all_works(kind):
                for held in all_works(kind):
                    for before in [told for many in range(3) for told in lists_of(kind, kind.first, many)][:9]:
                        state = play(kind, kind.first, before + (held, new))
                        tails = [told for many in range(3) for told in lists_of(kind, state, many)][:9] if state is not None else [()]
                        for behind in tails:
                            wanted = plain_sticks(kind, new, held, before, behind)
                            self.assertIs(shows_back(kind, new, held, Sticks(before, behind)), wanted)
                            counts[wanted] += 1
        self.assertGreater(min(counts), 300)

    def test_bent_papers(self):
        counts = [0, 0]
        for kind in KINDS[:12] + [BOX]:
            for new in all_works(kind):
                for held in all_works(kind):
                    told = goes_back(kind, new, held)
                    for place in (0, 1):
                        for bent in bends(told.parts[place]):
                            parts = [told.parts[0], told.parts[1]]
                            parts[place] = bent
                            if told:
                                wanted = plain_goes(kind, back_pairs, new, held, *parts)
                            else:
                                wanted = plain_sticks(kind, new, held, *parts)
                            self.assertIs(shows_back(kind, new, held, type(told)(*parts)), wanted)
                            counts[wanted] += 1
        self.assertGreater(min(counts), 60)

    def test_any_value_and_wrong_arguments(self):
        check_values_and_faults(self, shows_back, ("new", "held"), Sticks)


class ShowsBesideTest(SeenTest):
    def test_answers_and_other_goes(self):
        dice, counts = random.Random(213), {}
        for kind in KINDS:
            for one in all_works(kind):
                for other in all_works(kind):
                    told = goes_beside(kind, one, other)
                    self.assertIs(shows_beside(kind, one, other, told), True)
                    self.assertIs(shows_beside(kind=kind, one=list(other), other=list(one), value=type(told)(*listed(told.parts))), True)
                    parts = told.parts if told else (plain_reachable(kind), ())
                    for places, pairs in wider_goes(dice, kind, *parts):
                        wanted = plain_goes(kind, beside_pairs, one, other, places, pairs)
                        self.assertIs(shows_beside(kind, one, other, Goes(places, pairs)), wanted)
                        counts[wanted, bool(told)] = counts.get((wanted, bool(told)), 0) + 1
        self.assertEqual(counts.pop((True, False), 0), 0)
        self.assertGreater(min(counts.values()), 100)

    def test_both_ways_round(self):
        # The one way round alone is carried, and the other one is wanted, too: state 1 is as good as 2.
        rows = [(0, 0, 0, 1), (0, 1, 0, 2), (1, 0, 0, 1), (1, 1, 0, 1), (2, 0, 0, 2), (2, 1, 0, 2)]
        kind, same = Kind(["a", "b"], ["x"], 3, 0, rows), [(1, 1), (2, 2)]
        for pairs, wanted in (([(1, 2), (2, 1)], True), ([(1, 2)], False), ([(2, 1)], False), ([(1, 2), (1, 2)], False)):
            self.assertIs(shows_beside(kind, (0, 0), (1, 0), Goes([0, 1, 2], pairs + same)), wanted)
            self.assertIs(shows_beside(kind, (0, 0), (1, 0), Goes([0, 1, 2], pairs)), False)
        self.assertIs(shows_back(kind, (0, 0), (1, 0), Goes([0, 1, 2], same + [(2, 1)])), True)
        self.assertIs(shows_back(kind, (0, 0), (1, 0), Goes([0, 1, 2], same + [(1, 2)])), False)

    def test_any_jars(self):
        counts = [0, 0]
        for kind in KINDS[:30]:
            works = all_works(kind)
            for one in works:
                for other in works:
                    for before in [told for many in range(3) for told in lists_of(kind, kind.first, many)][:7]:
                        state = play(kind, kind.first, before)
                        for first, second in {(one, other), (other, one), (one, one), (works[0], other)}:
                            turned = play(kind, state, (second, first))
                            tails = [told for many in range(3) for told in lists_of(kind, turned, many)][:5] if turned is not None else [()]
                            for behind in tails + [(works[-1],)]:
                                parts = (before, first, second, behind)
                                wanted = plain_jars(kind, one, other, parts)
                                self.assertIs(shows_beside(kind, one, other, Jars(*parts)), wanted)
                                counts[wanted] += 1
        self.assertGreater(min(counts), 300)

    def test_bent_papers(self):
        counts = [0, 0]
        for kind in KINDS[:12] + [BOX]:
            for one in all_works(kind):
                for other in all_works(kind):
                    told = goes_beside(kind, one, other)
                    for place in range(len(told.parts)):
                        for bent in bends(told.parts[place]):
                            parts = list(told.parts)
                            parts[place] = bent
                            wanted = plain_goes(kind, beside_pairs, one, other, *parts) if told else plain_jars(kind, one, other, parts)
                            self.assertIs(shows_beside(kind, one, other, type(told)(*parts)), wanted)
                            counts[wanted] += 1
        self.assertGreater(min(counts), 60)

    def test_a_behind_that_can_be_played_neither_way(self):
        put, take, short = (0, 0), (1, 0), (1, 1)
        self.assertIs(shows_beside(BOX, put, take, Jars([put], take, put, [short])), True)
        self.assertIs(shows_beside(BOX, put, take, Jars([put], take, put, [(0, 1)])), False)
        self.assertIs(shows_beside(BOX, take, take, Jars([put], take, take, [])), True)
        self.assertIs(shows_beside(BOX, take, take, Jars([put], take, take, [short])), False)
        self.assertIs(shows_beside(BOX, take, short, Jars([], short, take, [])), False)

    def test_any_value_and_wrong_arguments(self):
        check_values_and_faults(self, shows_beside, ("one", "other"), Jars)


def check_values_and_faults(test, shows, names, made):
    for new, held in (((0, 0), (0, 0)), ((1, 1), (1, 0)), ((1, 0), (1, 0))):
        for value in OTHERS + (Enough([0, 1], [(0, 0), (1, 1)]), Lacks([])):
            test.assertIs(shows(BOX, new, held, value), False)
            test.assertIs(shows(BOX, new, held, Goes(value, value)), False)
            if value not in ([], ()):
                test.assertIs(shows(BOX, new, held, Goes([0, 1], value)), False)
            test.assertIs(shows(BOX, new, held, Goes(value, [(0, 0), (1, 1)])), False)
            test.assertIs(shows(BOX, new, held, made(*[value] * (2 if made is Sticks else 4))), False)
    test.assertIs(shows(BOX, (0, 0), (0, 0), Goes([0, 1], [(0, 0), (1, 1)])), True)
    test.assertIs(shows(BOX, (0, 0), (0, 0), Goes([False, 1], [(0, 0), (1, 1)])), False)
    test.assertIs(shows(BOX, (0, 0), (0, 0), Goes([0, 1], [(0, False), (1, 1)])), False)
    works = NO_NUMBERS + ((2, 0), (0, 2), (-1, 0), (0, 0, 0), (0,), (True, 0), (0, None), "ab")
    test.assert_faults(shows, {"kind": BOX, names[0]: (0, 0), names[1]: [1, 1], "value": None}, [
        ("kind", NO_OBJECTS + (BOX.rows,), BadKind("kind")), (names[0], works, BadNumber(names[0])), (names[1], works, BadNumber(names[1])),
    ])


def plain_lacks_right(kind, way, table, log):
    """Whether a log, of records of the right forms, is that of a right Lacks."""
    if not log_stands(kind, log) or plain_stray(kind, way, table, log) is not None or len(deals_of_log(log, "yes")) > 7:
        return False
    return plain_break(kind, events_of_log(log)) is not None


class ShowsEnoughTest(SeenTest):
    def test_answers_and_other_papers(self):
        dice, counts = random.Random(214), {}
        for kind in KINDS:
            can_all = can_all_pairs(kind)
            for way in TABLE_WAYS:
                turned, least = back_pairs if way == "in place" else beside_pairs, plain_table(kind, way)
                for table in ((), least, least[1:], [pair for pair in least if dice.random() < 0.5] + [((0, 0), (0, 0))] * (not least)):
                    told = is_enough(kind, way, table)
                    self.assertIs(shows_enough(kind, way, table, told), True)
                    self.assertIs(shows_enough(kind=kind, way=way, table=listed(table), value=type(told)(*listed(told.parts))), True)
                    free = [(new, held) for new in all_works(kind) for held in all_works(kind) if (new, held) not in table]
                    parts = told.parts if told else (plain_reachable(kind), ())
                    for places, pairs in wider_goes(dice, kind, *parts) + [(list(range(kind.states)), sorted(can_all))]:
                        wanted = all(plain_goes(kind, turned, new, held, places, pairs) for new, held in free) \
                            and plain_grounds(kind, places, pairs)
                        self.assertIs(shows_enough(kind, way, table, Enough(places, pairs)), wanted)
                        counts[way, wanted] = counts.get((way, wanted), 0) + 1
        self.assertGreater(min(counts.values()), 60)

    def test_any_log(self):
        dice, counts = random.Random(215), {}
        for number in range(500):
            kind = dice.choice(KINDS[-3:]) if number % 2 else some_kind(dice, states=3, asks=2, answers=2)
            way, least = dice.choice(TABLE_WAYS), plain_table(kind, dice.choice(TABLE_WAYS))
            table = tuple(pair for pair in least if dice.random() < 0.5)
            log = some_log(dice, kind, (0, 3, 5), 14, way, table, 0 if number % 3 else 1)
            wanted = plain_lacks_right(kind, way, table, log)
            self.assertIs(shows_enough(kind, way, table, Lacks(log)), wanted)
            self.assertIs(shows_enough(kind, way, table, Lacks(listed(log))), wanted)
            counts[wanted] = counts.get(wanted, 0) + 1
        self.assertGreater(min(counts.values()), 15)

    def test_bent_logs(self):
        counts = [0, 0]
        for way, table in (("in place", back_table(BOX)[:3]), ("laid by", ()), ("in place", ()), ("laid by", beside_table(BOX)[:2])):
            log = is_enough(BOX, way, table).log
            for bent in bends(log):
                try:
                    fine = all(
                        isinstance(record, (list, tuple)) and type(record[0]) is str and len(record) == (4 if record[0] == "do" else 2)
                        and all(type(one) is int for one in record[1:]) and 0 <= record[1] < 12
                        and (record[0] in ("ready", "yes", "no") or record[0] == "do" and tuple(record[2:]) in all_works(BOX))
                        for record in bent
                    ) and isinstance(bent, (list, tuple))
                except (IndexError, TypeError):
                    fine = False
                wanted = fine and plain_lacks_right(BOX, way, table, [tuple(record) for record in bent])
                self.assertIs(shows_enough(BOX, way, table, Lacks(bent)), wanted)
                counts[wanted] += 1
        self.assertGreater(min(counts), 3)

    def test_seven_ended_deals_and_eight(self):
        take = (0, 0)
        coin = Kind(["take"], ["done", "short"], 2, 1, [(0, 0, 1, 0), (1, 0, 0, 0)])
        log = [("do", deal) + take for deal in (0, 1)] + [("ready", deal) for deal in range(8)]
        for many in (7, 8):
            some = log + [("yes", deal) for deal in range(many)]
            self.assertIs(shows_enough(coin, "laid by", (), Lacks(some)), many == 7)

    def test_any_value_and_wrong_arguments(self):
        for way in TABLE_WAYS:
            for table in ((), [((0, 0), (1, 0))], {"in place": back_table, "laid by": beside_table}[way](BOX)):
                for value in OTHERS + (Goes([0, 1], [(0, 0), (1, 1)]), Paper("enough", [0, 1], [(0, 0), (1, 1)])):
                    self.assertIs(shows_enough(BOX, way, table, value), False)
                    self.assertIs(shows_enough(BOX, way, table, Lacks(value)), False)
                    self.assertIs(shows_enough(BOX, way, table, Enough(value, value)), False)
                    self.assertIs(shows_enough(BOX, way, table, Enough(value, [(0, 0), (1, 1)])), False)
            self.assert_faults(shows_enough, {"kind": BOX, "way": way, "table": [], "value": None}, [
                ("kind", NO_OBJECTS + (BOX.rows,), BadKind("kind")), ("way", NO_WAYS + ("watched",), BadValue("way")),
                ("table", NO_TABLES, BadTable("table")),
            ])

    def test_where_is_enough_has_too_many_events(self):
        kind = chain(60)
        self.assertIs(shows_enough(kind, "in place", (), None), False)
        self.assertIs(shows_enough(kind, "in place", (), Enough(list(range(60)), [(k, k) for k in range(60)])), False)
        self.assertIs(shows_enough(kind, "in place", [((0, 1), (0, 0))], Enough(list(range(60)), [(k, k) for k in range(60)])), True)

    def test_at_the_greatest_size(self):
        for kind in (great_kind(), wide_kind(), two_chains(30), purse(8, 3), bag(8, 2)) + tuple(made_kinds()):
            for way, tells in (("in place", back_table), ("laid by", beside_table)):
                table = tells(kind)
                self.assertIs(self.assert_short(shows_enough, kind, way, table, is_enough(kind, way, table)), True)
                if table and kind.states < 60:
                    told = is_enough(kind, way, table[1:])
                    self.assertIs(self.assert_short(shows_enough, kind, way, table[1:], told), True)
                    self.assertIs(self.assert_short(shows_enough, kind, way, table, told), False)

    def test_clashes_are_just_what_no_goes_can_show(self):
        for kind in KINDS[:20]:
            can_all = can_all_pairs(kind)
            full = Goes(plain_reachable(kind), sorted(can_all))
            for new in all_works(kind):
                for held in all_works(kind):
                    self.assertIs(shows_back(kind, new, held, full), not plain_clash(kind, "in place", new, held, can_all))
                    self.assertIs(shows_beside(kind, new, held, full), not plain_clash(kind, "laid by", new, held, can_all))


if __name__ == "__main__":
    unittest.main()
