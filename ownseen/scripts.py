"""Scripts: the steps of a world, and their texts."""

from ownseen.checks import is_row, is_within
from ownseen.errors import BadScript, BadText
from ownseen.texts import Reader

MOST_SCRIPT_STEPS = 400

# For each word the bounds of the integers behind it: hands and houses are 0 to 3, nodes 0 to 4, deals 0 to 7.
BOUNDS = {
    "send": ((0, 3),),
    "bring": ((0, None),),
    "lose": ((0, None),),
    "twice": ((0, None),),
    "cut": ((0, 4), (0, None)),
    "fuse": ((0, 4), (0, None)),
    "rise": ((0, 4),),
    "drop": ((0, 3), (0, 7)),
    "again": ((0, 4),),
    "sweep": ((0, 3),),
    "quit": ((0, 7),),
}


def is_step(value):
    """Whether any value is a step of a world."""
    if not is_row(value) or not value or not isinstance(value[0], str) or value[0] not in BOUNDS:
        return False
    bounds = BOUNDS[value[0]]
    if len(value) != 1 + len(bounds):
        return False
    return all([is_within(number, bound[0], bound[1]) for number, bound in zip(value[1:], bounds)])


def is_script(value):
    """Whether any value is a script."""
    return is_row(value) and len(value) <= MOST_SCRIPT_STEPS and all([is_step(step) for step in value])


def script_text(script):
    """The text of the script."""
    if not is_script(script):
        raise BadScript("script")
    return " / ".join([" ".join([str(item) for item in step]) for step in script])


def read_step(reader):
    """The step that comes next."""
    word = reader.take_word(list(BOUNDS))
    return (word, *[reader.take_number(bound[0], bound[1]) for bound in BOUNDS[word]])


def read_script(text):
    """The script whose text this is."""
    reader = Reader(text)
    if text == "":
        return ()
    steps = [read_step(reader)]
    while not reader.is_done():
        if len(steps) == MOST_SCRIPT_STEPS:
            raise BadText(reader.at)
        reader.take_sign("/")
        steps.append(read_step(reader))
    return tuple(steps)
