"""Papers: what they keep, what they are, when they are equal."""

import unittest

from ownseen.accords import Accord, Quarrel
from ownseen.alike import Alike, Parts
from ownseen.check_journals import Lost, Outlives
from ownseen.clashes import Goes, Jars, Sticks
from ownseen.earlies import Apart, EarlyLets
from ownseen.joins import Lax, Ring
from ownseen.lates import LateLets
from ownseen.orders import Bars, Fits
from ownseen.own import Breaks, Keeps
from ownseen.papers import Denial, Paper, fixed
from ownseen.stairs import StampTorn
from ownseen.tables import Enough, Lacks
from ownseen.torn import Core, Torn
from ownseen.watches import Lets, Spoils

# For each class its word, its parts, and whether it is a denial.
CLASSES = (
    (Alike, "alike", ("pairs",), False),
    (Parts, "parts", ("operations",), True),
    (Fits, "fits", ("order",), False),
    (Bars, "bars", ("beginnings",), True),
    (Keeps, "keeps", ("rooms",), False),
    (Breaks, "breaks", ("order",), True),
    (Lets, "lets", ("rooms",), False),
    (Spoils, "spoils", ("deals", "order"), True),
    (Torn, "torn", ("weave",), False),
    (Core, "core", ("deals", "weave", "papers"), False),
    (Lax, "lax", ("house", "order"), True),
    (Ring, "ring", ("deals", "houses"), True),
    (StampTorn, "stamptorn", ("weave", "stamps"), False),
    (EarlyLets, "earlylets", ("rooms",), False),
    (Apart, "apart", ("weave",), False),
    (LateLets, "latelets", ("rooms",), False),
    (Goes, "goes", ("places", "pairs"), False),
    (Sticks, "sticks", ("before", "behind"), True),
    (Jars, "jars", ("before", "first", "second", "behind"), True),
    (Enough, "enough", ("places", "pairs"), False),
    (Lacks, "lacks", ("log",), True),
    (Outlives, "outlives", ("contents",), False),
    (Lost, "lost", ("lands", "torn"), True),
    (Accord, "accord", ("rows",), False),
    (Quarrel, "quarrel", ("deal", "house"), True),
)
VALUES = ([1, (2, [3])], None, "word", True, {"a": [1]}, 7, [], ([[]],), object())


class PapersTest(unittest.TestCase):
    def test_fixed(self):
        for value, wanted in (
            ([], ()), ((), ()), ([1, [2, (3, [])]], (1, (2, (3, ())))), (7, 7), ("ab", "ab"), (None, None),
            (True, True), ([{"a": [1]}], ({"a": [1]},)), ([[[[[]]]]], (((((),),),),)),
        ):
            self.assertEqual(fixed(value), wanted)
            self.assertEqual(repr(fixed(value)), repr(wanted))
        for value in ({"a": [1]}, object(), "ab"):
            self.assertIs(fixed(value), value)
        self.assertIs(fixed([VALUES[4]])[0], VALUES[4])
        self.assertEqual(fixed(value=[1]), (1,))

    def test_fixed_thirty_deep(self):
        value, wanted = [], ()
        for _ in range(29):
            value, wanted = [value], (wanted,)
        self.assertEqual(fixed(value), wanted)

    def test_a_paper_keeps_its_parts(self):
        parts = [1, (2, [3])]
        for made in (Paper, Denial):
            paper = made("note", parts, [])
            self.assertEqual((paper.word, paper.parts), ("note", ((1, (2, (3,))), ())))
            self.assertEqual(made("note").parts, ())
            self.assertEqual(made(word="note").word, "note")
            self.assertEqual(made(["note"]).word, ("note",))
        parts[1][1].append(4)
        self.assertEqual(paper.parts, ((1, (2, (3,))), ()))

    def test_papers_are_true_and_denials_false(self):
        self.assertIs(bool(Paper("no")), True)
        self.assertIs(bool(Denial("yes")), False)
        for made, _, fields, denial in CLASSES:
            self.assertIs(bool(made(*[()] * len(fields))), not denial)

    def test_where_classes_stand(self):
        self.assertTrue(issubclass(Denial, Paper))
        for made, _, _, denial in CLASSES:
            self.assertTrue(issubclass(made, Paper))
            self.assertIs(issubclass(made, Denial), denial)
            for other in CLASSES:
                self.assertIs(issubclass(made, other[0]), made is other[0])

    def test_each_class_by_place_and_by_name(self):
        for made, word, fields, _ in CLASSES:
            for at in range(len(VALUES)):
                values = [VALUES[(at + k) % len(VALUES)] for k in range(len(fields))]
                for paper in (made(*values), made(**dict(zip(fields, values)))):
                    self.assertEqual(paper.word, word)
                    self.assertEqual(paper.parts, tuple(fixed(value) for value in values))
                    for field, value in zip(fields, values):
                        self.assertEqual(getattr(paper, field), fixed(value))

    def test_what_is_passed_is_not_kept(self):
        for made, _, fields, _ in CLASSES:
            parts = [[[1], [2]] for _ in fields]
            paper = made(*parts)
            for part in parts:
                part[0].append(3)
                part.append(4)
            self.assertEqual(paper.parts, (((1,), (2,)),) * len(fields))
            self.assertEqual(getattr(paper, fields[0]), ((1,), (2,)))

    def test_equal_by_class_word_and_parts(self):
        self.assertEqual(Paper("note", [1]), Paper("note", (1,)))
        self.assertNotEqual(Paper("note", 1), Paper("note", 2))
        self.assertNotEqual(Paper("note", 1), Paper("note", 1, 1))
        self.assertNotEqual(Paper("note"), Paper("other"))
        self.assertNotEqual(Paper("note"), Denial("note"))
        self.assertNotEqual(Denial("note"), Paper("note"))
        self.assertEqual(Paper("note", [1]), Paper("note", [True]))
        for made, word, fields, _ in CLASSES:
            parts = [[1, [2]]] * len(fields)
            self.assertIs(made(*parts) == made(*fixed(parts)), True)
            self.assertIs(made(*parts) != made(*fixed(parts)), False)
            self.assertIs(made(*parts) == made(*[[1]] * len(fields)), False)
            for told in (Paper(word, *parts), Denial(word, *parts)):
                self.assertIs(made(*parts) == told, False)
                self.assertIs(told == made(*parts), False)
            for other in CLASSES:
                if other[0] is not made:
                    self.assertNotEqual(made(*parts), other[0](*[[1, [2]]] * len(other[2])))

    def test_a_class_of_another_package_by_the_same_name(self):
        class Foreign:
            word, parts = "fits", ((),)
        Foreign.__name__ = "Fits"
        self.assertIs(Fits([]) == Foreign(), False)

    def test_no_paper_equals_another_value(self):
        for value in (None, True, False, 0, "fits", (), ("fits", ((),)), {}, object(), Fits):
            self.assertIs(Fits([]) == value, False)
            self.assertIs(Fits([]) != value, True)
            self.assertIs(value == Fits([]), False)


if __name__ == "__main__":
    unittest.main()
