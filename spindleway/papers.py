"""Papers: answers together with what shows them."""


def fixed(value):
    """The value with tuples in the place of lists, all the way in; other values stay."""
    if isinstance(value, (list, tuple)):
        return tuple([fixed(each) for each in value])
    return value


def _are_alike(one, other):
    return type(one) is type(other) and one.word == other.word and one.parts == other.parts


class Paper:
    """A paper that says yes."""

    def __init__(self, word, *parts):
        self.word = fixed(word)
        self.parts = fixed(parts)

    def __eq__(self, other):
        return _are_alike(self, other)


class Denial(Paper):
    """A paper that says no: it is false."""

    # The interface lists == for this class too, so it stands here and is not only inherited.
    def __eq__(self, other):
        return _are_alike(self, other)

    def __bool__(self):
        return False
