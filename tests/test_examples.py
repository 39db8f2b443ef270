"""Every example of the document, as it stands, under the headings that have landed."""

import importlib
import os
import unittest

from ownseen.errors import SeenError

EXAMPLES = os.path.join(os.path.dirname(os.path.abspath(__file__)), "examples.txt")


def told_by(source, names):
    """What the document would print behind the source, None for a statement."""
    try:
        code = compile(source, "example", "eval")
    except SyntaxError:
        exec(source, names)
        return None
    try:
        return repr(eval(code, names))
    except SeenError as error:
        return f"raises {error!r}"


class ExamplesTest(unittest.TestCase):
    def test_examples_as_they_stand(self):
        with open(EXAMPLES, encoding="ascii") as file:
            lines = file.read().splitlines()
        names, asked = {}, 0
        for at, line in enumerate(lines):
            if line.startswith("## "):
                module = importlib.import_module("ownseen." + line[3:])
                names.update({name: value for name, value in vars(module).items() if not name.startswith("_")})
            elif line.startswith(">>> "):
                behind = lines[at + 1] if at + 1 < len(lines) else ""
                wanted = None if behind.startswith((">>> ", "## ")) or not behind else behind
                told = told_by(line[4:], names)
                if wanted == "raises Impossible":
                    told = (told or "").split("(")[0]
                self.assertEqual(told, wanted, line)
                asked += wanted is not None
        self.assertEqual(asked, sum(not line.startswith((">>> ", "## ")) for line in lines))
