"""Papers that show answers without a search: judges that take them, and makers."""

from colormatch.matches import matching_lamp, other_match
from colormatch.observers import color_of, is_number, is_reflectance, require_reflectance
from colormatch.quotients import is_quotient, zero
from colormatch.ranges import BOUND, end_among, least_values, stopping_side, utmost, without
from colormatch.reflectances import PASS, STOP, band_pattern, crossings, is_band_pattern
from colormatch.solid import (
    HIGH, LOW, bands_of, bound_among, brightest, is_beyond, kind_at, limit_of, pair_det, side_toward, surface_of,
    surface_test,
)
from colormatch.vectors import black, scaled, sum_of, taken

SURFACE = "surface"
OUTSIDE = "outside"
ONLY = "only"
ANOTHER = "another"
BRIGHT = "bright"
DARK = "dark"
LAMP = "lamp"
FEW = "few"
END = "end"
# Reflectances that cross more often have matching weights.
MOST_FEW = 2


def judge_surface(view, color, paper):
    """Whether a paper shows that a color is a surface color, or that it is none."""
    if _has_form(paper, SURFACE, 2):
        return _is_reflectance_of(view, color, paper[1])
    if not _has_form(paper, OUTSIDE, 4):
        return False
    _, i, j, side = paper
    return _is_pair(view, i, j) and _is_word(side, (LOW, HIGH)) and is_beyond(view, color, (i, j), side)


def judge_only(view, reflectance, paper):
    """Whether a paper shows that a reflectance is the only one with its color, or that there is another one."""
    require_reflectance(view, reflectance)
    if _has_form(paper, ANOTHER, 2):
        other = paper[1]
        return _is_reflectance_of(view, color_of(view, reflectance), other) and other != reflectance
    return _has_form(paper, ONLY, 4) and _is_pattern_of(view, reflectance, paper[1:])


def judge_bright(view, color, paper):
    """Whether a paper shows the brightest multiple of a color, or that its factor is 0."""
    if _has_form(paper, BRIGHT, 6):
        _, factor, reflectance, i, j, kind = paper
        return (
            is_quotient(factor) and zero() < factor
            and _is_reflectance_of(view, scaled(factor, color), reflectance)
            and _is_pattern_of(view, reflectance, (i, j, kind))
            and _is_toward(view, color, (i, j), LOW if kind == PASS else HIGH)
        )
    if not _has_form(paper, DARK, 4):
        return False
    _, i, j, side = paper
    return (
        _is_pair(view, i, j) and _is_word(side, (LOW, HIGH))
        and bound_among(view.generators, bands_of(view), (i, j), side) == zero()
        and _is_toward(view, color, (i, j), side)
    )


def judge_lamp(observer, first, second, paper):
    """Whether a paper shows weights with which two reflectances match, or that there are none."""
    require_reflectance(observer, first)
    require_reflectance(observer, second)
    if _has_form(paper, LAMP, 2):
        return _are_weights(observer, paper[1]) and _do_match(observer, first, second, paper[1])
    if not _has_form(paper, FEW, 2):
        return False
    return is_number(paper[1], 0, MOST_FEW) and first != second and crossings(first, second) == paper[1]


def judge_end(view, color, band, end, paper):
    """Whether a paper shows an end of the range of a band, for a color."""
    if not _has_form(paper, END, 3):
        return False
    _, reflectance, reason = paper
    if not _is_reflectance_of(view, color, reflectance):
        return False
    value = reflectance[band]
    if _has_form(reason, BOUND, 1):
        return value == utmost(end)
    return _is_stop(view, taken(color, scaled(value, view.generators[band])), band, end, reason)


def explain_surface(view, color):
    """A paper that judge_surface takes."""
    fault = surface_test(view, color)
    if fault is None:
        return (SURFACE, surface_of(view, color))
    return (OUTSIDE,) + fault


def explain_only(view, reflectance):
    """A paper that judge_only takes."""
    other = other_match(view, reflectance)
    if other is None:
        return (ONLY,) + band_pattern(reflectance)
    return (ANOTHER, other)


def explain_bright(view, color):
    """A paper that judge_bright takes, for a color other than black."""
    factor, (i, j), side = limit_of(view, color)
    if factor == zero():
        return (DARK, i, j, side)
    _, reflectance, _ = brightest(view, color)
    return (BRIGHT, factor, reflectance, i, j, kind_at(side))


def explain_lamp(observer, first, second):
    """A paper that judge_lamp takes."""
    weights = matching_lamp(observer, first, second)
    if weights is None:
        return (FEW, crossings(first, second))
    return (LAMP, weights)


def explain_end(view, color, band, end):
    """A paper that judge_end takes, or None if the color is no surface color."""
    if surface_test(view, color) is not None:
        return None
    generators = view.generators
    value, reason = end_among(generators, bands_of(view), color, band, end)
    rest = taken(color, scaled(value, generators[band]))
    values = least_values(generators, without(bands_of(view), band), rest)
    return (END, tuple(values[:band] + [value] + values[band:]), reason)


def _has_form(paper, word, length):
    return isinstance(paper, tuple) and len(paper) == length and _is_word(paper[0], (word,))


def _is_word(value, words):
    # Other values may compare in any way of their own, so only strings are compared.
    return isinstance(value, str) and value in words


def _is_pair(view, i, j):
    last = len(view) - 1
    return is_number(i, 0, last) and is_number(j, i + 1, last)


def _is_reflectance_of(view, color, value):
    return is_reflectance(view, value) and color_of(view, value) == color


def _is_pattern_of(view, reflectance, pattern):
    i, j, kind = pattern
    return _is_pair(view, i, j) and _is_word(kind, (PASS, STOP)) and is_band_pattern(reflectance, (i, j), kind)


def _is_toward(view, color, pair, side):
    """Whether a color comes to the bound of this side, for two bands, when it is multiplied."""
    place = pair_det(view.generators, pair, color)
    return place != zero() and side_toward(place) == side


def _are_weights(observer, value):
    if not isinstance(value, tuple) or len(value) != len(observer):
        return False
    return all([is_quotient(weight) and zero() < weight for weight in value])


def _do_match(observer, first, second, weights):
    rows = zip(weights, taken(first, second), observer.vectors)
    return sum_of([scaled(weight * difference, vector) for weight, difference, vector in rows]) == black()


def _is_stop(view, rest, band, end, reason):
    """Whether two other bands, which have the rest of a color, let a band go no farther to its end."""
    if not isinstance(reason, tuple) or len(reason) != 3:
        return False
    i, j, side = reason
    if not _is_pair(view, i, j) or band in (i, j) or not _is_word(side, (LOW, HIGH)):
        return False
    generators = view.generators
    slope = pair_det(generators, (i, j), generators[band])
    bound = bound_among(generators, without(bands_of(view), band), (i, j), side)
    return pair_det(generators, (i, j), rest) == bound and stopping_side(slope, end) == side
