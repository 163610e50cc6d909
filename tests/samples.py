"""What several test files need: bands, views and reflectances."""

from fractions import Fraction
from random import Random

from colormatch.observers import Observer, View
from colormatch.quotients import Quotient, whole

EXAMPLE = ((1, 0, 0), (1, 1, 1), (1, 2, 4), (1, 3, 9))
HALF = Quotient(1, 2)
BEYOND = (Quotient(10 ** 24 + 1, 10 ** 24), Quotient(-1, 10 ** 24), whole(2), whole(-1))
NO_QUOTIENTS = (0, 1, True, False, 0.5, Fraction(1, 2), "1/2", None, (1, 2))
# Regular, but not on the curve of the others: with parts 0 and 100 in each place.
SQUARE = ((100, 0, 0), (100, 100, 0), (100, 100, 100), (100, 0, 100))


def quotient(text):
    """The quotient of a text like "1/2" or "-3"."""
    return from_fraction(Fraction(text))


def quotients(text):
    """The tuple of the quotients of a text like "1/2 0 1"."""
    return tuple(quotient(word) for word in text.split())


def texts(values):
    """The texts of quotients, with single spaces between them."""
    return " ".join(str(value) for value in values)


def from_fraction(value):
    return Quotient(value.numerator, value.denominator)


def fraction(value):
    return Fraction(value.top, value.bottom)


def from_fractions(values):
    return tuple(from_fraction(value) for value in values)


def fractions(values):
    return tuple(fraction(value) for value in values)


def with_value(row, at, value):
    return row[:at] + (value,) + row[at + 1:]


def fraction_det(a, b, c):
    """The determinant of the rows a, b and c of integers or fractions, by Sarrus."""
    return (
        a[0] * b[1] * c[2] + a[1] * b[2] * c[0] + a[2] * b[0] * c[1]
        - a[2] * b[1] * c[0] - a[1] * b[0] * c[2] - a[0] * b[2] * c[1]
    )


def fraction_sum(rows, factors):
    """The sum of the rows, each times its factor."""
    return tuple(sum((row[part] * factor for row, factor in zip(rows, factors)), Fraction(0)) for part in range(3))


def curve_bands(*places):
    """Bands on a curve: a regular observer, if the places rise."""
    return tuple((1, place, place * place) for place in places)


def example_view(lamp=(1, 1, 1, 1)):
    """The view of the document's examples."""
    return View(Observer(EXAMPLE), lamp)


def views():
    """Views of 4, 5, 6 and 7 bands, under lamps of equal and of unequal values."""
    yield example_view()
    yield example_view((1, 2, 3, 4))
    yield View(Observer(SQUARE), (7, 1, 100, 13))
    yield View(Observer(curve_bands(0, 1, 2, 4, 9)), (1, 1, 1, 1, 1))
    yield View(Observer(curve_bands(1, 3, 4, 5, 7)), (5, 1, 3, 2, 9))
    yield View(Observer(curve_bands(0, 2, 3, 5, 7, 10)), (2, 3, 1, 1, 4, 6))
    yield View(Observer(curve_bands(0, 1, 3, 4, 6, 7, 9)), (1, 9, 2, 8, 3, 7, 4))


def bad_reflectances():
    """Values that are no reflectances beside a view or an observer of four bands."""
    yield from ([HALF] * 4, None, 4, "1111", HALF, (), {HALF.top: HALF}, ((HALF,) * 4,))
    yield from ((HALF,) * many for many in (1, 3, 5, 8))
    for at in range(4):
        for value in BEYOND + NO_QUOTIENTS:
            yield with_value((HALF,) * 4, at, value)


def some_reflectances(many, count, seed):
    """Reflectances of so many values, the same ones for the same seed: small, great, 0 and 1 among them."""
    source = Random(seed)
    for _ in range(count):
        values = []
        for _ in range(many):
            bottom = source.choice((1, 1, 2, 3, 4, 10 ** 24 + 7))
            values.append(Quotient(source.randint(0, bottom), bottom))
        yield tuple(values)


def some_colors(count, seed):
    """Colors of either sign, the same ones for the same seed: small and great ones, zeros among them."""
    source = Random(seed)
    for _ in range(count):
        values = []
        for _ in range(3):
            bottom = source.choice((1, 1, 2, 7, 10 ** 20 + 39))
            values.append(Quotient(source.randint(-3 * bottom, 4 * bottom), bottom))
        yield tuple(values)
