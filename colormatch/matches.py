"""Lamps under which two reflectances match, and other reflectances with the same color."""

from colormatch.observers import require_reflectance
from colormatch.quotients import one, size_of, zero
from colormatch.reflectances import sign_blocks
from colormatch.vectors import det, taken

FOUR = 4
# Whether the values of four bands go up; the first way that is possible is taken.
WAYS = ((True, False, True, False), (False, True, False, True))


def matching_lamp(observer, first, second):
    """The weights with which two reflectances match, or None if there are none."""
    require_reflectance(observer, first)
    require_reflectance(observer, second)
    differences = taken(first, second)
    blocks = sign_blocks(differences)
    if len(blocks) == 0:
        return (one(),) * len(observer)
    if len(blocks) < FOUR:
        return None
    return _weights(observer.vectors, differences, blocks)


def other_match(view, reflectance):
    """Another reflectance with the same color in a view, or None if there is none."""
    require_reflectance(view, reflectance)
    for bands in _fours(len(view)):
        for ups in WAYS:
            if _can_go(reflectance, bands, ups):
                return _moved(view.generators, reflectance, bands, ups)
    return None


def _weights(vectors, differences, blocks):
    weights = [one() if difference == zero() else zero() for difference in differences]
    for number, block in enumerate(blocks):
        for band in block:
            bands = _four_of_blocks(blocks, number, band)
            for member, determinant in zip(bands, _other_determinants(vectors, bands)):
                share = determinant.over(size_of(differences[member]))
                weights[member] = weights[member] + share
    return tuple(weights)


def _four_of_blocks(blocks, number, band):
    """A band of the block of this number, and the first bands of three blocks beside it."""
    last_start = len(blocks) - FOUR
    start = number if number < last_start else last_start
    return [band if at == number else blocks[at][0] for at in range(start, start + FOUR)]


def _other_determinants(vectors, bands):
    """For each of four bands the determinant of the vectors of the other three."""
    first, second, third, fourth = [vectors[band] for band in bands]
    return [
        det(second, third, fourth),
        det(first, third, fourth),
        det(first, second, fourth),
        det(first, second, third),
    ]


def _fours(count):
    """All four bands i < j < k < l, in lexicographic order."""
    fours = []
    for i in range(count):
        for j in range(i + 1, count):
            for k in range(j + 1, count):
                for last in range(k + 1, count):
                    fours.append((i, j, k, last))
    return fours


def _can_go(reflectance, bands, ups):
    return all([_room(reflectance[band], up) != zero() for band, up in zip(bands, ups)])


def _room(value, up):
    """How far a value can go up, or down."""
    return one() - value if up else value


def _moved(generators, reflectance, bands, ups):
    """The reflectance with the values of four bands changed as far as possible."""
    determinants = _other_determinants(generators, bands)
    step = _greatest_step(reflectance, bands, ups, determinants)
    values = list(reflectance)
    for band, up, determinant in zip(bands, ups, determinants):
        change = step * determinant
        values[band] = values[band] + change if up else values[band] - change
    return tuple(values)


def _greatest_step(reflectance, bands, ups, determinants):
    """The greatest factor of the determinants with which no value leaves 0 to 1."""
    step = None
    for band, up, determinant in zip(bands, ups, determinants):
        limit = _room(reflectance[band], up).over(determinant)
        if step is None or limit < step:
            step = limit
    return step
