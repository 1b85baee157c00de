"""The errors that the program raises, a class for each kind of failure."""


class FleuronError(ValueError):
    """The base class of all errors below."""


class TextError(FleuronError):
    """A line of the text of a font is incorrect. Lines count from 1."""

    def __init__(self, line, reason):
        FleuronError.__init__(self, f"line {line} is incorrect: {reason}")
        self.line = line
        self.reason = reason


class InvalidFont(FleuronError):
    """Something in a font does not hold."""

    def __init__(self, place, reason):
        FleuronError.__init__(self, f"the font is invalid at {place}: {reason}")
        self.place = place
        self.reason = reason


class NoTable(FleuronError):
    """A hint program has no accepted tables."""

    def __init__(self, function, place):
        FleuronError.__init__(self, f"there is no table: function {function}, place {place}")
        self.function = function
        self.place = place


class TooLarge(FleuronError):
    """Something is beyond a limit of the program."""

    def __init__(self, limit):
        FleuronError.__init__(self, f"too large: {limit}")
        self.limit = limit


class UnknownGlyph(FleuronError):
    """A font has no glyph with this number."""

    def __init__(self, number):
        FleuronError.__init__(self, f"there is no glyph {number}")
        self.number = number


class OutOfRange(FleuronError):
    """The glyph with this number does not exist at a place."""

    def __init__(self, number):
        FleuronError.__init__(self, f"glyph {number} does not exist at the place")
        self.number = number


class ZeroDivisor(FleuronError):
    """Something was to be divided by 0."""

    def __init__(self):
        FleuronError.__init__(self, "the divisor is 0")


class InvalidPlace(FleuronError):
    """A list of numbers is no place of a font."""

    def __init__(self):
        FleuronError.__init__(self, "the list is no place of the font")


class InvalidSize(FleuronError):
    """A size is out of its range."""

    def __init__(self):
        FleuronError.__init__(self, "the size is out of its range")


class InvalidTable(FleuronError):
    """A table of joins or orders is not as it must be."""

    def __init__(self):
        FleuronError.__init__(self, "the table is invalid")


class InvalidPacking(FleuronError):
    """A list of numbers is not the packed list of a font."""

    def __init__(self):
        FleuronError.__init__(self, "the list is no packed font")
