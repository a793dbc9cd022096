"""Papers: each tells an answer and what shows it; a denial is a paper that says no."""


def fixed(value):
    """Any value with tuples in the place of lists, all the way in; other values stay."""
    if not isinstance(value, (list, tuple)):
        return value
    # papers of many books are long: what is no list is not asked by a call of its own
    return tuple([fixed(item) if isinstance(item, (list, tuple)) else item for item in value])


def _are_equal(one, other):
    """Whether a paper is equal to any value."""
    if not isinstance(other, Paper):
        return False
    # each class of papers has a name of its own, so the name tells the class
    if one.__class__.__name__ != other.__class__.__name__:
        return False
    return bool(one.word == other.word and one.parts == other.parts)


class Paper:
    """A paper: true."""

    def __init__(self, word, *parts):
        self.word = word
        self.parts = fixed(parts)

    def __bool__(self):
        return True

    def __eq__(self, other):
        return _are_equal(self, other)


class Denial(Paper):
    """A paper that says no: false."""

    def __init__(self, word, *parts):
        super().__init__(word, *parts)

    def __bool__(self):
        return False

    def __eq__(self, other):
        return _are_equal(self, other)
