"""The errors of the program."""


class ColorError(ValueError):
    """The base of all errors."""


class BadQuotient(ColorError):
    """A quotient with the bottom 0, or a division by zero."""


class BadObserver(ColorError):
    """Bands that make no observer, whatever their determinants are."""


class Irregular(ColorError):
    """Bands of which a triple has a determinant that is not positive."""

    def __init__(self, triple):
        ColorError.__init__(self, f"the determinant of the bands {triple} is not positive")
        self.triple = triple


class BadLamp(ColorError):
    """What is no lamp of the observer."""


class BadReflectance(ColorError):
    """What is no reflectance of the view or the observer."""


class TextFault(ColorError):
    """A text that is none of a reflectance, and the place of its fault."""

    def __init__(self, place):
        ColorError.__init__(self, f"the text has a fault at the place {place}")
        self.place = place


class LengthsDiffer(ColorError):
    """Sequences of unequal lengths where equal ones are needed."""


class Dependent(ColorError):
    """Primaries whose determinant is 0."""


class WhiteOutside(ColorError):
    """A white that is not inside the edges of the observer."""


class IsBlack(ColorError):
    """Black where a color other than black is needed."""


class TooMany(ColorError):
    """More samples, filters or changes than a bench can have."""


class NoFilter(ColorError):
    """A bench without a filter that could be removed."""
