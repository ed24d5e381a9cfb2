"""Papers, which tell an answer and what shows it, and denials, which say no."""


def fixed(value):
    """The value with tuples in the place of lists, all the way in."""
    if isinstance(value, (list, tuple)):
        return tuple([fixed(item) for item in value])
    return value


class Paper:
    """A paper is true. Its class calls this one with its word and its parts."""

    def __init__(self, word, *parts):
        self.word = word
        self.parts = fixed(parts)

    def __eq__(self, other):
        return (isinstance(other, Paper)
                and self.__class__.__name__ == other.__class__.__name__
                and self.word == other.word and self.parts == other.parts)


class Denial(Paper):
    """A paper that says no: it is false."""

    def __init__(self, word, *parts):
        Paper.__init__(self, word, *parts)

    def __eq__(self, other):
        return (isinstance(other, Denial)
                and self.__class__.__name__ == other.__class__.__name__
                and self.word == other.word and self.parts == other.parts)

    def __bool__(self):
        return False
