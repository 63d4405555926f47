"""All errors that the functions and classes of restlots raise."""


class RestError(ValueError):
    """The base class of all errors here."""


class BadNumber(RestError):
    """A value is no number, index, step or factor within its limits."""


class BadStretch(RestError):
    """Two values are no begin and end of a stretch."""


class BadModulus(RestError):
    """A value is no modulus within its limits."""


class BadPlace(RestError):
    """A value is no index of a bar."""


class BadRests(RestError):
    """A value is no lot of a bar with its modulus."""


class TooGreat(RestError):
    """A whole or a modulus would be above its limit."""


class TooMany(RestError):
    """There would be more things than the limit allows."""


class Nothing(RestError):
    """No number fits, so there is nothing to tell."""


class BadBars(RestError):
    """A value is no row of bars: index tells the first wrong one, None that it is no row at all."""

    def __init__(self, index):
        super().__init__(f"no row of bars (index {index})")
        self.index = index


class BadModuli(RestError):
    """A value is no row of moduli: index tells the first wrong one, None that it is no row at all."""

    def __init__(self, index):
        super().__init__(f"no row of moduli (index {index})")
        self.index = index


class BadSeen(RestError):
    """A value is no row of what was seen: index tells the first wrong one, None that it is no row at all."""

    def __init__(self, index):
        super().__init__(f"no row of what was seen (index {index})")
        self.index = index


class BadLine(RestError):
    """A text has a line that cannot stand: line and word, counted from 1, tell where."""

    def __init__(self, line, word):
        super().__init__(f"line {line} cannot stand from word {word} on")
        self.line = line
        self.word = word
