"""Kinds that are made, held against the things that they stand for."""

import unittest
from itertools import product

from ownseen.errors import BadNumber, TooMany
from ownseen.kinds import Kind, is_sure
from ownseen.makers import bag, chest, counter, line, pile, purse, shelf, tickets
from ownseen.plays import reachable

from tests.helper import NO_NUMBERS, SeenTest


def wanted_kind(asks, answers, things, first, told):
    """The kind of which told(thing, ask) gives all pairs (answer, thing then), by words."""
    numbers = {thing: number for number, thing in enumerate(things)}
    rows = [
        (numbers[thing], asks.index(ask), answers.index(answer), numbers[then])
        for thing in things for ask in asks for answer, then in told(thing, ask)
    ]
    return Kind(asks, answers, len(things), numbers[first], sorted(rows))


def stored(room, items, keep, outs):
    """The kind that keeps lists; keep tells how an item joins, outs all pairs (item, list then)."""
    asks = [f"add{k}" for k in range(items)] + ["next"]
    answers = ["ok", "full", "empty"] + [f"i{k}" for k in range(items)]
    lists = [told for many in range(room + 1) for told in product(range(items), repeat=many)]
    lists = [told for told in lists if not told or keep(told[:-1], told[-1]) == told]

    def told(thing, ask):
        if ask == "next":
            return [(f"i{item}", then) for item, then in sorted(set(outs(thing)))] or [("empty", thing)]
        return [("ok", keep(thing, int(ask[3:])))] if len(thing) < room else [("full", thing)]

    return wanted_kind(asks, answers, lists, (), told)


class MakersTest(SeenTest):
    def test_purse(self):
        for most in range(1, 9):
            for first in range(most + 1):
                def told(there, ask):
                    if ask == "read":
                        return [(f"n{there}", there)]
                    then = there + {"put1": 1, "put2": 2, "take1": -1, "take2": -2}[ask]
                    return [("full", there) if then > most else ("short", there) if then < 0 else ("ok", then)]
                answers = ["ok", "full", "short"] + [f"n{k}" for k in range(most + 1)]
                asks = ["put1", "put2", "take1", "take2", "read"]
                self.assertEqual(purse(most, first), wanted_kind(asks, answers, range(most + 1), first, told))

    def test_tickets(self):
        for many in range(1, 12):
            def told(given, _):
                return [("none", given) if given == many else (f"n{given}", given + 1)]
            answers = [f"n{k}" for k in range(many)] + ["none"]
            self.assertEqual(tickets(many), wanted_kind(["draw"], answers, range(many + 1), 0, told))

    def test_counter(self):
        for most in range(1, 11):
            def told(there, ask):
                if ask == "read":
                    return [(f"n{there}", there)]
                if ask == "up":
                    return [("ok", 0 if there == most else there + 1)]
                return [("ok", most if there == 0 else there - 1)]
            answers = ["ok"] + [f"n{k}" for k in range(most + 1)]
            self.assertEqual(counter(most), wanted_kind(["up", "down", "read"], answers, range(most + 1), 0, told))

    def test_chest(self):
        for items in range(1, 5):
            def told(there, ask):
                item = int(ask[-1])
                within = there // 2 ** item % 2
                if ask.startswith("put"):
                    return [("there", there) if within else ("ok", there + 2 ** item)]
                return [("ok", there - 2 ** item) if within else ("gone", there)]
            asks = [f"put{k}" for k in range(items)] + [f"take{k}" for k in range(items)]
            self.assertEqual(chest(items), wanted_kind(asks, ["ok", "there", "gone"], range(2 ** items), 0, told))

    def test_shelf(self):
        for worths in range(2, 8):
            for first in range(worths):
                def told(there, ask):
                    return [(f"n{there}", there) if ask == "read" else ("ok", int(ask[3:]))]
                asks = [f"set{k}" for k in range(worths)] + ["read"]
                answers = ["ok"] + [f"n{k}" for k in range(worths)]
                self.assertEqual(shelf(worths, first), wanted_kind(asks, answers, range(worths), first, told))

    def assert_stored(self, made, keep, outs, states):
        for room in range(1, 9):
            for items in range(1, 4):
                if states(room, items) > 60:
                    self.assert_raises(TooMany("states", 60), made, room, items)
                else:
                    told = made(room, items)
                    self.assertEqual(told.states, states(room, items))
                    self.assertEqual(told, stored(room, items, keep, outs))
                    self.assertEqual(reachable(told), tuple(range(told.states)))

    def test_line(self):
        self.assert_stored(
            line, lambda told, item: told + (item,), lambda told: [(told[0], told[1:])] if told else [],
            lambda room, items: sum(items ** many for many in range(room + 1)))

    def test_pile(self):
        self.assert_stored(
            pile, lambda told, item: told + (item,), lambda told: [(told[-1], told[:-1])] if told else [],
            lambda room, items: sum(items ** many for many in range(room + 1)))

    def test_bag(self):
        def states(room, items):
            return sum(len({tuple(sorted(told)) for told in product(range(items), repeat=many)}) for many in range(room + 1))
        self.assert_stored(
            bag, lambda told, item: tuple(sorted(told + (item,))),
            lambda told: [(told[at], told[:at] + told[at + 1:]) for at in range(len(told))], states)

    def test_which_are_sure(self):
        for kind in (purse(8, 0), tickets(11), counter(10), chest(4), shelf(7, 6), line(4, 2), pile(4, 2), bag(8, 1)):
            self.assertIs(is_sure(kind), True)
        self.assertIs(is_sure(bag(2, 2)), False)

    def test_wrong_numbers(self):
        def wrong(name, least, most):
            return (name, NO_NUMBERS + (least - 1, most + 1, 10 ** 60, -10 ** 60), BadNumber(name))
        self.assert_faults(purse, {"most": 3, "first": 3}, [wrong("most", 1, 8), wrong("first", 0, 3)])
        self.assert_faults(tickets, {"many": 2}, [wrong("many", 1, 11)])
        self.assert_faults(counter, {"most": 2}, [wrong("most", 1, 10)])
        self.assert_faults(chest, {"items": 2}, [wrong("items", 1, 4)])
        self.assert_faults(shelf, {"worths": 3, "first": 2}, [wrong("worths", 2, 7), wrong("first", 0, 2)])
        for made in (line, pile, bag):
            self.assert_faults(made, {"room": 2, "items": 2}, [wrong("room", 1, 8), wrong("items", 1, 3)])

    def test_the_number_comes_ahead_of_too_many(self):
        for made in (line, pile, bag):
            self.assert_raises(BadNumber("items"), made, 8, 4)
            self.assert_raises(BadNumber("room"), made, 9, 3)
            self.assert_raises(TooMany("states", 60), made, 8, 3)


if __name__ == "__main__":
    unittest.main()
