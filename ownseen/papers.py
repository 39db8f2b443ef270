"""Papers: answers together with what shows them."""


def fixed(value):
    """The value with tuples in the place of lists, all the way in."""
    if isinstance(value, (list, tuple)):
        return tuple([fixed(one) for one in value])
    return value


class Paper:
    """A true paper; every class of papers stands below it."""

    def __init__(self, word, *parts):
        self.word = fixed(word)
        self.parts = fixed(parts)

    def __bool__(self):
        return True

    def __eq__(self, other):
        # The classes are told apart by their names: no two classes of papers share one.
        return (
            isinstance(other, Paper)
            and self.__class__.__name__ == other.__class__.__name__
            and self.word == other.word
            and self.parts == other.parts
        )


class Denial(Paper):
    """A paper that says no."""

    def __init__(self, word, *parts):
        self.word = fixed(word)
        self.parts = fixed(parts)

    def __bool__(self):
        return False
