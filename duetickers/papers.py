"""Papers: each tells an answer and what shows it."""


class Paper:
    """An answer and what shows it, in parts: it is true."""

    def __init__(self, word, *parts):
        self.word = word
        self.parts = fixed(parts)

    def __eq__(self, other):
        return are_alike(self, other)

    def __bool__(self):
        return True


class Denial(Paper):
    """A paper that says no: it is false."""

    def __init__(self, word, *parts):
        Paper.__init__(self, word, *parts)

    def __eq__(self, other):
        return are_alike(self, other)

    def __bool__(self):
        return False


def are_alike(one, other):
    """Whether other is a paper of the same class as one, with the same word and parts."""
    if not isinstance(other, Paper) or one.__class__.__name__ != other.__class__.__name__:
        return False
    return one.word == other.word and one.parts == other.parts


def is_made_by(value, name):
    """Whether value is a paper made by calling the class of this name, not one below it."""
    return isinstance(value, Paper) and value.__class__.__name__ == name


def fixed(value):
    """Any value with tuples in the place of lists, all the way in; other values stay."""
    if isinstance(value, (list, tuple)):
        return tuple([fixed(part) for part in value])
    return value
