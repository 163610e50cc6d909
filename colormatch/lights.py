"""Lights: chromaticities, mixtures of colors, and colors taken apart by a white."""

from colormatch.errors import Dependent, LengthsDiffer, WhiteOutside
from colormatch.quotients import total, zero
from colormatch.vectors import det, scaled, sum_of


def chromaticity(color):
    """The chromaticity of a color, or None if the sum of its parts is 0."""
    x, y, _ = color
    light = total(color)
    if light == zero():
        return None
    return (x.over(light), y.over(light))


def mix(colors, amounts):
    """The sum of the colors, each times its amount."""
    if len(colors) != len(amounts):
        raise LengthsDiffer("there is another number of amounts than of colors")
    return sum_of([scaled(amount, color) for color, amount in zip(colors, amounts)])


def mixture(primaries, color):
    """The amounts of three primaries whose sum is a color."""
    first, second, third = primaries
    bottom = det(first, second, third)
    if bottom == zero():
        raise Dependent("the determinant of the primaries is 0")
    tops = (det(color, second, third), det(first, color, third), det(first, second, color))
    return tuple([top.over(bottom) for top in tops])


def decompose(observer, white, color):
    """The amount of white, the first edge (i, j) and the amounts of its bands that make a color, or None."""
    edges = _edges(len(observer))
    vectors = observer.vectors
    if not _is_inside(vectors, edges, white):
        raise WhiteOutside("the white is not inside all edges of the observer")
    for i, j in edges:
        # The determinant of these three is positive, since the white is inside.
        amounts = mixture((white, vectors[i], vectors[j]), color)
        if all([zero() <= amount for amount in amounts]):
            return (amounts[0], (i, j), amounts[1:])
    return None


def _edges(count):
    return [(band, band + 1) for band in range(count - 1)] + [(count - 1, 0)]


def _is_inside(vectors, edges, white):
    return all([zero() < det(vectors[i], vectors[j], white) for i, j in edges])
