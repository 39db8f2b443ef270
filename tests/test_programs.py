"""Programs: right ones, and each of them bent in one place."""

import random
import unittest

from ownseen.clashes import back_table
from ownseen.errors import BadProgram
from ownseen.kinds import Kind
from ownseen.makers import purse, shelf, tickets
from ownseen.programs import Program

from tests.helper import NO_NUMBERS, NO_OBJECTS, NO_ROWS, SeenTest, bends, listed, strict
from tests.plain_worlds import some_program
from tests.test_logs import NO_WAYS, WAYS
from tests.test_ways import NO_TABLES

BOX = Kind(["put", "take"], ["ok", "short"], 2, 0, [(0, 0, 0, 1), (0, 1, 1, 0), (1, 0, 0, 1), (1, 1, 0, 0)])
TABLE = (((0, 0), (1, 0)),)
HOUSES = ((BOX, "in place", TABLE), (shelf(2, 0), "watched", ()), (tickets(2), "laid by", ()))
HANDS = (((((0, 1), (1, 2)), ((2, 0),))), (), (((1, 0), (1, 0), (0, 0)),))


def are_plain_hands(value, houses=HOUSES):
    """Whether any value has hands of this program."""
    row = lambda one: isinstance(one, (list, tuple))
    if not row(value) or not 1 <= len(value) <= 4 or not all(row(hand) and all(map(row, hand)) for hand in value):
        return False
    deals = [deal for hand in value for deal in hand]
    if len(deals) > 8 or not all(1 <= len(deal) <= 6 for deal in deals):
        return False
    for step in (step for deal in deals for step in deal):
        if not row(step) or len(step) != 2 or not all(type(one) is int for one in step):
            return False
        if not 0 <= step[0] < len(houses) or not 0 <= step[1] < len(houses[step[0]][0].asks):
            return False
    return True


class ProgramTest(SeenTest):
    def test_what_it_tells(self):
        program = Program(houses=[[BOX, "in place", [[[0, 0], [1, 0]]]], *HOUSES[1:]], hands=listed(HANDS))
        self.assertEqual(strict(program.hands), strict(HANDS))
        self.assertEqual(program.hands, HANDS)
        self.assertEqual(program.houses, HOUSES)
        self.assertEqual(program.deals, (((0, 1), (1, 2)), ((2, 0),), ((1, 0), (1, 0), (0, 0))))
        self.assertEqual(program.owners, (0, 0, 2))
        self.assertTrue(all(type(one) is tuple for one in (program.houses, program.houses[0], program.houses[0][2], program.deals, program.owners)))
        bare = Program([HOUSES[1]], [[]])
        self.assertEqual((bare.houses, bare.hands, bare.deals, bare.owners), ((HOUSES[1],), ((),), (), ()))

    def test_equal_by_what_it_tells(self):
        one = Program(HOUSES, HANDS)
        self.assertIs(one == Program([list(row) for row in HOUSES], listed(HANDS)), True)
        self.assertIs(one != Program(HOUSES, HANDS), False)
        for houses, hands in (
            (HOUSES[:2] + ((tickets(3), "laid by", ()),), HANDS), (HOUSES[:2] + ((tickets(2), "in place", ()),), HANDS),
            (((BOX, "in place", ()),) + HOUSES[1:], HANDS), (HOUSES, HANDS[:2]), (HOUSES, HANDS[::-1]), (HOUSES, ((), *HANDS[:2])),
        ):
            self.assertIs(one == Program(houses, hands), False)
        for value in NO_OBJECTS + (HOUSES, (HOUSES, HANDS)):
            self.assertIs(one == value, False)
            self.assertIs(one != value, True)

    def test_programs_made_in_many_ways(self):
        for seed in range(60):
            program = some_program(random.Random(seed), enough=0.5)
            again = Program([[kind, way, listed(table)] for kind, way, table in program.houses], listed(program.hands))
            self.assertTrue(again == program)
            self.assertEqual(len(program.deals), len(program.owners))

    def test_as_many_as_there_may_be(self):
        deal = [(0, 0)] * 6
        self.assertEqual(len(Program([HOUSES[0]] * 4, [[deal] * 2] * 4).deals), 8)
        self.assertEqual(len(Program([HOUSES[0]], [[deal] * 8]).deals), 8)
        for hands in ([[deal] * 9], [[deal] * 3] * 3, [[deal + [(0, 0)]]], [[[]]], [], [[]] * 5, [[deal]] * 5):
            self.assert_raises(BadProgram("hands"), Program, [HOUSES[0]], hands)
        for houses in ([], [HOUSES[0]] * 5):
            self.assert_raises(BadProgram("houses"), Program, houses, [[]])

    def test_bent_hands(self):
        right = 0
        for value in bends(HANDS):
            if are_plain_hands(value):
                right += 1
                self.assertEqual(Program(HOUSES, value).hands, tuple(tuple(tuple(map(tuple, deal)) for deal in hand) for hand in value))
            else:
                self.assert_raises(BadProgram("hands"), Program, HOUSES, value)
        self.assertGreater(right, 5)

    def test_houses_of_every_wrong_kind(self):
        for value in NO_ROWS + (HOUSES[0], [None], [()], [[BOX]], [[BOX, "in place"]], [[BOX, "in place", (), ()]]):
            self.assert_raises(BadProgram("houses"), Program, value, HANDS)
            self.assert_raises(BadProgram("houses"), Program, houses=value, hands=None)
        for value in NO_OBJECTS:
            self.assert_raises(BadProgram("houses"), Program, [HOUSES[1], (value, "in place", ())], [[]])
        for value in NO_WAYS:
            self.assert_raises(BadProgram("houses"), Program, [(BOX, value, ())], [[]])
        for way in WAYS:
            for value in NO_TABLES:
                if value != []:
                    self.assert_raises(BadProgram("houses"), Program, [(BOX, way, value)], [[]])
        self.assert_raises(BadProgram("houses"), Program, [(BOX, "watched", TABLE)], [[]])
        for value in NO_ROWS + NO_NUMBERS[:3]:
            self.assert_raises(BadProgram("hands"), Program, HOUSES, value)
            self.assert_raises(BadProgram("hands"), Program, HOUSES, [value])
            self.assert_raises(BadProgram("hands"), Program, HOUSES, [[], [value]])
            self.assert_raises(BadProgram("hands"), Program, HOUSES, [[[(0, 0), value]]])

    def test_what_is_passed_is_not_kept(self):
        table, houses, hands = [[[0, 0], [1, 0]]], [], [[[[0, 0]]], []]
        houses.append([BOX, "in place", table])
        program = Program(houses, hands)
        table[0].clear()
        houses[0].clear()
        houses.clear()
        hands[0][0][0][1] = 1
        hands[1].append([[0, 0]])
        self.assertTrue(program == Program([(BOX, "in place", TABLE)], [[[(0, 0)]], []]))

    def test_with_a_table_that_is_enough(self):
        kind = purse(2, 1)
        self.assertEqual(Program([(kind, "in place", back_table(kind))], [[]]).houses[0][2], back_table(kind))


if __name__ == "__main__":
    unittest.main()
