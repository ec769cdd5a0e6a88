"""Papers: answers that come with what shows them."""


def fixed(value):
    """The value with each list in it as a tuple, through lists and tuples."""
    if isinstance(value, (list, tuple)):
        return tuple([fixed(item) for item in value])
    return value


def _same_paper(one, other):
    # isinstance would not do: a class below another one is an unlike class.
    return type(one) is type(other) and one.word == other.word and one.parts == other.parts


class Paper:
    """An answer, told by a word, with the parts that show it."""

    def __init__(self, word, *parts):
        self.word = word
        self.parts = fixed(parts)

    def __eq__(self, other):
        return _same_paper(self, other)

    def __bool__(self):
        return True


class Denial(Paper):
    """A paper that says no, and so is false."""

    # The interface lists what follows for this class too, so it is not left to Paper.

    def __init__(self, word, *parts):
        Paper.__init__(self, word, *parts)

    def __eq__(self, other):
        return _same_paper(self, other)

    def __bool__(self):
        return False
