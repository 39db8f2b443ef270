"""The errors: their fields, and where they stand."""

import unittest

from ownseen import errors

PARTS = (
    "BadNumber", "BadLot", "BadKind", "BadValue", "BadTable", "BadOrder", "BadStamps",
    "BadLog", "BadDisk", "BadProgram", "BadScript", "BadPaper", "Misfit",
)
FIELDS = {
    **{name: ("part",) for name in PARTS},
    "BadEvents": ("at",), "TooMany": ("what", "most"), "Impossible": ("paper",),
    "Full": ("what",), "Out": (), "BadText": ("item",),
}
VALUES = ("rows", 7, None, [1, [2]], {"a": 1}, True, object())


class ErrorsTest(unittest.TestCase):
    def test_all_are_there_and_no_others(self):
        named = {name for name, value in vars(errors).items() if isinstance(value, type)}
        self.assertEqual(named, set(FIELDS) | {"SeenError"})

    def test_each_stands_directly_below(self):
        self.assertEqual(errors.SeenError.__bases__, (ValueError,))
        for name in FIELDS:
            self.assertEqual(getattr(errors, name).__bases__, (errors.SeenError,), name)

    def test_fields_by_place_and_by_name(self):
        for name, fields in FIELDS.items():
            made = getattr(errors, name)
            for at in range(len(VALUES)):
                values = [VALUES[(at + k) % len(VALUES)] for k in range(len(fields))]
                for error in (made(*values), made(**dict(zip(fields, values)))):
                    for field, value in zip(fields, values):
                        self.assertIs(getattr(error, field), value)
                    str(error), repr(error)

    def test_fields_must_be_told(self):
        for name, fields in FIELDS.items():
            if fields:
                with self.assertRaises(TypeError):
                    getattr(errors, name)(*["x"] * (len(fields) - 1))
                with self.assertRaises(TypeError):
                    getattr(errors, name)(*["x"] * (len(fields) + 1))

    def test_the_base_takes_any_values(self):
        for values in ((), ("a",), (1, None, [2])):
            self.assertEqual(errors.SeenError(*values).args, values)

    def test_each_is_caught_as_the_base(self):
        for name, fields in FIELDS.items():
            with self.assertRaises(errors.SeenError):
                raise getattr(errors, name)(*["x"] * len(fields))
            with self.assertRaises(ValueError):
                raise getattr(errors, name)(*["x"] * len(fields))


if __name__ == "__main__":
    unittest.main()
