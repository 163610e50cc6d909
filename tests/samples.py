"""What several test files need: bands, views and reflectances."""

from fractions import Fraction
from itertools import combinations, product
from random import Random

from colormatch.observers import Observer, View
from colormatch.quotients import Quotient, one, whole, zero
from colormatch.vectors import added, scaled, taken

EXAMPLE = ((1, 0, 0), (1, 1, 1), (1, 2, 4), (1, 3, 9))
HALF = Quotient(1, 2)
TINY = Quotient(1, 10 ** 30)
BEYOND = (Quotient(10 ** 24 + 1, 10 ** 24), Quotient(-1, 10 ** 24), whole(2), whole(-1))
NO_QUOTIENTS = (0, 1, True, False, 0.5, Fraction(1, 2), "1/2", None, (1, 2))
# Regular, but not on the curve of the others: with parts 0 and 100 in each place.
SQUARE = ((100, 0, 0), (100, 100, 0), (100, 100, 100), (100, 0, 100))
# All determinants of these are 1.
UNITS = ((1, 0, 0), (1, 1, 0), (1, 1, 1), (1, 0, 1))


def quotient(text):
    """The quotient of a text like "1/2" or "-3"."""
    return from_fraction(Fraction(text))


def quotients(text):
    """The tuple of the quotients of a text like "1/2 0 1"."""
    return tuple(quotient(word) for word in text.split())


def texts(values):
    """The texts of quotients, with single spaces between them."""
    return " ".join(str(value) for value in values)


def from_fraction(value):
    return Quotient(value.numerator, value.denominator)


def fraction(value):
    return Fraction(value.top, value.bottom)


def from_fractions(values):
    return tuple(from_fraction(value) for value in values)


def fractions(values):
    return tuple(fraction(value) for value in values)


def with_value(row, at, value):
    return row[:at] + (value,) + row[at + 1:]


def fraction_det(a, b, c):
    """The determinant of the rows a, b and c of integers or fractions, by Sarrus."""
    return (
        a[0] * b[1] * c[2] + a[1] * b[2] * c[0] + a[2] * b[0] * c[1]
        - a[2] * b[1] * c[0] - a[1] * b[0] * c[2] - a[0] * b[2] * c[1]
    )


def fraction_sum(rows, factors):
    """The sum of the rows, each times its factor."""
    return tuple(sum((row[part] * factor for row, factor in zip(rows, factors)), Fraction(0)) for part in range(3))


def curve_bands(*places):
    """Bands on a curve: a regular observer, if the places rise."""
    return tuple((1, place, place * place) for place in places)


def example_view(lamp=(1, 1, 1, 1)):
    """The view of the document's examples."""
    return View(Observer(EXAMPLE), lamp)


def views():
    """Views of 4, 5, 6 and 7 bands, under lamps of equal and of unequal values."""
    yield example_view()
    yield example_view((1, 2, 3, 4))
    yield View(Observer(SQUARE), (7, 1, 100, 13))
    yield View(Observer(curve_bands(0, 1, 2, 4, 9)), (1, 1, 1, 1, 1))
    yield View(Observer(curve_bands(1, 3, 4, 5, 7)), (5, 1, 3, 2, 9))
    yield View(Observer(curve_bands(0, 2, 3, 5, 7, 10)), (2, 3, 1, 1, 4, 6))
    yield View(Observer(curve_bands(0, 1, 3, 4, 6, 7, 9)), (1, 9, 2, 8, 3, 7, 4))


def bad_reflectances():
    """Values that are no reflectances beside a view or an observer of four bands."""
    yield from ([HALF] * 4, None, 4, "1111", HALF, (), {HALF.top: HALF}, ((HALF,) * 4,))
    yield from ((HALF,) * many for many in (1, 3, 5, 8))
    for at in range(4):
        for value in BEYOND + NO_QUOTIENTS:
            yield with_value((HALF,) * 4, at, value)


def some_reflectances(many, count, seed):
    """Reflectances of so many values, the same ones for the same seed: small, great, 0 and 1 among them."""
    source = Random(seed)
    for _ in range(count):
        values = []
        for _ in range(many):
            bottom = source.choice((1, 1, 2, 3, 4, 10 ** 24 + 7))
            values.append(Quotient(source.randint(0, bottom), bottom))
        yield tuple(values)


def some_colors(count, seed):
    """Colors of either sign, the same ones for the same seed: small and great ones, zeros among them."""
    source = Random(seed)
    for _ in range(count):
        values = []
        for _ in range(3):
            bottom = source.choice((1, 1, 2, 7, 10 ** 20 + 39))
            values.append(Quotient(source.randint(-3 * bottom, 4 * bottom), bottom))
        yield tuple(values)


def patterns(many, ends):
    """All band patterns of so many values, as (i, j, kind, reflectance), with these values at their ends."""
    for i, j in combinations(range(many), 2):
        for kind in ("pass", "stop"):
            for first, second in product(ends, repeat=2):
                values = [one() if (i < band < j) == (kind == "pass") else zero() for band in range(many)]
                values[i], values[j] = first, second
                yield i, j, kind, tuple(values)


def some_patterns(many, ends):
    """All band patterns of 4 or 5 values; of more values, some with each pair of values at their ends."""
    # Neither 4 nor 9 pairs of values at the ends come around with a step of 5.
    return list(patterns(many, ends))[::1 if many < 6 else 5]


def across(first, second):
    """The vector whose product with a color is the determinant of these two and the color."""
    a, b, c = first
    d, e, f = second
    return (b * f - c * e, c * d - a * f, a * e - b * d)


def beside(view, i, j, color, step):
    """A color moved so that its determinant with the generators of i and j alone grows by a step's sign."""
    return added(color, scaled(step, across(view.generators[i], view.generators[j])))


def moved(color, step):
    """The six colors that differ from a color by a step in one part."""
    for part in range(3):
        change = tuple(step if at == part else zero() for at in range(3))
        yield added(color, change)
        yield taken(color, change)


def solved(rows, color):
    """The amounts of three rows of fractions whose sum is a color."""
    bottom = fraction_det(*rows)
    return tuple(fraction_det(*rows[:at], color, *rows[at + 1:]) / bottom for at in range(3))


def corner_reflectances(view, color):
    """All reflectances of a color, in fractions, with at most three values strictly between 0 and 1.

    Each other reflectance of the color is between these; so each end of a
    range, and the first reflectance of all, is found among them.
    """
    generators = [fractions(generator) for generator in view.generators]
    wanted = fractions(color)
    found = set()
    for three in combinations(range(len(view)), 3):
        others = [band for band in range(len(view)) if band not in three]
        for bits in product((Fraction(0), Fraction(1)), repeat=len(others)):
            fixed = fraction_sum([generators[band] for band in others], bits)
            rest = tuple(part - used for part, used in zip(wanted, fixed))
            amounts = solved([generators[band] for band in three], rest)
            if all(0 <= amount <= 1 for amount in amounts):
                values = dict(zip(others, bits)) | dict(zip(three, amounts))
                found.add(tuple(values[band] for band in range(len(view))))
    return found


def picture(value):
    """What a value holds, as a text that changes if anything in it does."""
    if isinstance(value, (tuple, list)):
        return f"{type(value).__name__}({', '.join(picture(part) for part in value)})"
    if hasattr(value, "__dict__"):
        held = ", ".join(f"{name}: {picture(part)}" for name, part in vars(value).items())
        return f"{type(value).__name__}[{held}]"
    return repr(value)
