"""What several test files need: bands, views and reflectances."""

from fractions import Fraction

from colormatch.observers import Observer, View
from colormatch.quotients import Quotient


def quotient(text):
    """The quotient of a text like "1/2" or "-3"."""
    value = Fraction(text)
    return Quotient(value.numerator, value.denominator)


def quotients(text):
    """The tuple of the quotients of a text like "1/2 0 1"."""
    return tuple(quotient(word) for word in text.split())


def texts(values):
    """The texts of quotients, with single spaces between them."""
    return " ".join(str(value) for value in values)


def curve_bands(*places):
    """Bands on a curve: a regular observer, if the places rise."""
    return tuple((1, place, place * place) for place in places)


def example_view(lamp=(1, 1, 1, 1)):
    """The view of the document's examples."""
    return View(Observer(((1, 0, 0), (1, 1, 1), (1, 2, 4), (1, 3, 9))), lamp)
