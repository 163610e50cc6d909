"""Observers, views, and the colors that reflectances have in a view."""

from colormatch.errors import BadLamp, BadObserver, BadReflectance, Irregular
from colormatch.quotients import is_quotient, one, whole, zero
from colormatch.vectors import det, scaled, sum_of

PARTS = 3
MOST_PART = 100
LEAST_LIGHT = 1
MOST_LIGHT = 100


class Observer:
    """A regular observer: its bands, also as vectors."""

    LEAST_BANDS = 4
    MOST_BANDS = 7

    def __init__(self, bands):
        if not _are_bands(bands):
            raise BadObserver("the bands are not a tuple of 4 to 7 tuples of three integers from 0 to 100")
        vectors = tuple([tuple([whole(part) for part in band]) for band in bands])
        triple = _first_irregular(vectors)
        if triple is not None:
            raise Irregular(triple)
        self.bands = bands
        self.vectors = vectors

    def __len__(self):
        return len(self.bands)


class View:
    """An observer with a lamp, and the generators of its bands."""

    def __init__(self, observer, lamp):
        if not _is_lamp(observer, lamp):
            raise BadLamp("the lamp is not a tuple of one integer from 1 to 100 for each band")
        self.observer = observer
        self.lamp = lamp
        self.generators = tuple([scaled(whole(light), vector) for light, vector in zip(lamp, observer.vectors)])

    def __len__(self):
        return len(self.lamp)


def color_of(view, reflectance):
    """The color of a reflectance in a view."""
    require_reflectance(view, reflectance)
    return sum_of([scaled(value, generator) for value, generator in zip(reflectance, view.generators)])


def is_match(view, first, second):
    """Whether two reflectances have the same color in a view."""
    return color_of(view, first) == color_of(view, second)


def require_reflectance(view, value):
    """Raise BadReflectance for what is no reflectance beside a view or an observer."""
    if not is_reflectance(view, value):
        raise BadReflectance("a reflectance is a tuple of one quotient from 0 to 1 for each band")


def is_reflectance(view, value):
    """Whether a value is a reflectance with one value for each band of a view or an observer."""
    return isinstance(value, tuple) and len(value) == len(view) and all([_is_share(part) for part in value])


def is_number(value, least, most):
    """Whether a value is an integer from a least to a most one."""
    # True and False are not integers here, though they are for isinstance.
    return isinstance(value, int) and not isinstance(value, bool) and least <= value and value <= most


def _is_share(value):
    return is_quotient(value) and zero() <= value and value <= one()


def _are_bands(bands):
    if not isinstance(bands, tuple):
        return False
    if len(bands) < Observer.LEAST_BANDS or len(bands) > Observer.MOST_BANDS:
        return False
    return all([_is_band(band) for band in bands])


def _is_band(band):
    return isinstance(band, tuple) and len(band) == PARTS and all([is_number(part, 0, MOST_PART) for part in band])


def _is_lamp(observer, lamp):
    if not isinstance(lamp, tuple) or len(lamp) != len(observer):
        return False
    return all([is_number(light, LEAST_LIGHT, MOST_LIGHT) for light in lamp])


def _first_irregular(vectors):
    count = len(vectors)
    for i in range(count):
        for j in range(i + 1, count):
            for k in range(j + 1, count):
                if det(vectors[i], vectors[j], vectors[k]) <= zero():
                    return (i, j, k)
    return None
