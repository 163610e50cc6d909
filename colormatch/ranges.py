"""What is sure of a surface whose color is known: the ranges of its bands, and its least reflectance."""

from colormatch.lights import mixture
from colormatch.quotients import one, zero
from colormatch.solid import HIGH, LOW, bands_of, bound_among, pair_det, pairs_of, surface_test
from colormatch.vectors import scaled, taken

LEAST = "least"
GREATEST = "greatest"
BOUND = "bound"
PARTS = 3


def band_range(view, color, band):
    """The least and the greatest value of a band among the reflectances of a color; None for no surface color."""
    if surface_test(view, color) is not None:
        return None
    least, _ = end_among(view.generators, bands_of(view), color, band, LEAST)
    greatest, _ = end_among(view.generators, bands_of(view), color, band, GREATEST)
    return (least, greatest)


def least_reflectance(view, color):
    """The first reflectance of a color in lexicographic order, or None if it is no surface color."""
    if surface_test(view, color) is not None:
        return None
    return tuple(least_values(view.generators, bands_of(view), color))


def end_among(generators, bands, color, band, end):
    """An end of the range of one of some bands, and why no value beyond it can be.

    The color is one that these bands have. They are at least four: without the
    one, those that remain have a color exactly if it satisfies all their pairs.
    """
    others = without(bands, band)
    value = utmost(end)
    reason = (BOUND,)
    for i, j in pairs_of(others):
        slope = pair_det(generators, (i, j), generators[band])
        side = stopping_side(slope, end)
        bound = bound_among(generators, others, (i, j), side)
        stop = (pair_det(generators, (i, j), color) - bound).over(slope)
        if _comes_first(stop, value, end):
            value = stop
            reason = (i, j, side)
    return value, reason


def least_values(generators, bands, color):
    """The first values in lexicographic order with which some bands have a color that they can have."""
    values = []
    left = list(bands)
    rest = color
    while len(left) > PARTS:
        value, _ = end_among(generators, left, rest, left[0], LEAST)
        values.append(value)
        rest = taken(rest, scaled(value, generators[left[0]]))
        left = left[1:]
    # Three bands have each color with one triple of values only.
    return values + list(mixture([generators[band] for band in left], rest))


def without(bands, band):
    """The bands other than one."""
    return [other for other in bands if other != band]


def utmost(end):
    """The value that no end of this kind goes beyond."""
    return zero() if end == LEAST else one()


def stopping_side(slope, end):
    """The side of a pair that can stop a band, by the sign of their determinant."""
    return HIGH if (zero() < slope) == (end == LEAST) else LOW


def _comes_first(stop, value, end):
    """Whether a band on its way to an end comes to a stop ahead of a value."""
    return value < stop if end == LEAST else stop < value
