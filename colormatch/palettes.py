"""Palettes: the nearest color, and colors replaced by those of a palette."""

from colormatch.quotients import total
from colormatch.vectors import added, black, taken


def nearest_color(palette, color):
    """The index of the color of a palette with the least distance, of several the first one."""
    nearest = 0
    least = _distance(palette[0], color)
    for index, candidate in enumerate(palette):
        distance = _distance(candidate, color)
        if distance < least:
            nearest = index
            least = distance
    return nearest


def diffuse(palette, colors):
    """The indices of the colors that stand for the given ones, and the last error."""
    indices = []
    error = black()
    for color in colors:
        wanted = added(color, error)
        index = nearest_color(palette, wanted)
        error = taken(wanted, palette[index])
        indices.append(index)
    return (tuple(indices), error)


def _distance(first, second):
    return total([part * part for part in taken(first, second)])
