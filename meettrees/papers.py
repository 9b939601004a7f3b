"""Papers: answers that tell what shows them, so that a reader can check them."""


def fixed(value):
    """The value with tuples in the place of lists, all the way in; other values stay."""
    if isinstance(value, (list, tuple)):
        return tuple([fixed(part) for part in value])
    return value


class Paper:
    """A word and parts; it is true."""

    def __init__(self, word, *parts):
        self.word = word
        self.parts = fixed(parts)

    def __bool__(self):
        return True

    def __eq__(self, other):
        # The name tells the class: no two classes of papers have one name.
        return (
            isinstance(other, Paper)
            and self.__class__.__name__ == other.__class__.__name__
            and self.word == other.word
            and self.parts == other.parts
        )


class Denial(Paper):
    """A paper that says no; it is false."""

    def __bool__(self):
        return False
