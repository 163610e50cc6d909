"""The solid of surface colors: its bounds, and the brightest color of each chromaticity."""

from colormatch.errors import IsBlack
from colormatch.lights import mixture
from colormatch.observers import color_of
from colormatch.quotients import total, zero
from colormatch.reflectances import PASS, STOP, pattern_parts
from colormatch.vectors import black, det, scaled, taken

LOW = "low"
HIGH = "high"


def low(view, first, second):
    """The sum of the determinants of two bands with each band strictly between them."""
    return bound_among(view.generators, bands_of(view), (first, second), LOW)


def high(view, first, second):
    """The sum of the determinants of two bands with each band outside of them."""
    return bound_among(view.generators, bands_of(view), (first, second), HIGH)


def surface_test(view, color):
    """None for a surface color, otherwise the first pair that it does not satisfy, and the side."""
    for i, j in pairs_of(bands_of(view)):
        for side in (LOW, HIGH):
            if is_beyond(view, color, (i, j), side):
                return (i, j, side)
    return None


def brightest(view, color):
    """The factor of a color, the reflectance and the color of its brightest multiple; None if the factor is 0."""
    factor, pair, side = limit_of(view, color)
    if factor == zero():
        return None
    brightest_color = scaled(factor, color)
    return (factor, _pattern_with_color(view, pair, kind_at(side), brightest_color), brightest_color)


def surface_of(view, color):
    """A reflectance with a color, or None if it is no surface color."""
    if surface_test(view, color) is not None:
        return None
    if color == black():
        return (zero(),) * len(view)
    # The factor of a surface color is at least 1.
    factor, reflectance, _ = brightest(view, color)
    return tuple([value.over(factor) for value in reflectance])


def bands_of(view):
    """The numbers of the bands of a view or an observer."""
    return list(range(len(view)))


def pairs_of(bands):
    """All pairs i < j of ascending bands, in lexicographic order."""
    return [(i, j) for at, i in enumerate(bands) for j in bands[at + 1:]]


def pair_det(generators, pair, vector):
    """The determinant of the generators of two bands and a vector."""
    i, j = pair
    return det(generators[i], generators[j], vector)


def bound_among(generators, bands, pair, side):
    """The bound of a side for two bands, with sums over the given bands alone."""
    return total([pair_det(generators, pair, generators[band]) for band in bands if _is_on(band, pair, side)])


def is_beyond(view, color, pair, side):
    """Whether a color does not satisfy two bands on a side."""
    place = pair_det(view.generators, pair, color)
    bound = bound_among(view.generators, bands_of(view), pair, side)
    return place < bound if side == LOW else bound < place


def side_toward(place):
    """The side whose bound a color comes to when it is multiplied, by the sign of its determinant."""
    return LOW if place < zero() else HIGH


def kind_at(side):
    """The kind of the band patterns whose colors are on the bound of a side."""
    return PASS if side == LOW else STOP


def limit_of(view, color):
    """The factor of a color, and the first pair of bands and the side at which it is found."""
    if color == black():
        raise IsBlack("black has no factor")
    generators = view.generators
    limit = None
    for pair in pairs_of(bands_of(view)):
        place = pair_det(generators, pair, color)
        if place == zero():
            continue
        side = side_toward(place)
        factor = bound_among(generators, bands_of(view), pair, side).over(place)
        if limit is None or factor < limit[0]:
            limit = (factor, pair, side)
    return limit


def _is_on(band, pair, side):
    i, j = pair
    if side == LOW:
        return i < band and band < j
    return band < i or j < band


def _pattern_with_color(view, pair, kind, color):
    """The band pattern of two bands that has a color, which one of them has."""
    i, j = pair
    inner, outer = pattern_parts(kind)
    values = [inner if i < band and band < j else outer for band in bands_of(view)]
    values[i] = zero()
    values[j] = zero()
    rest = taken(color, color_of(view, tuple(values)))
    # What the two bands must add needs no third one: its amount is 0.
    third = [band for band in bands_of(view) if band not in pair][0]
    primaries = [view.generators[band] for band in (i, j, third)]
    values[i], values[j], _ = mixture(primaries, rest)
    return tuple(values)
