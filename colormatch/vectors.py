"""Vectors: tuples of three quotients."""

from colormatch.quotients import zero


def black():
    """The color with three zeros."""
    return (zero(), zero(), zero())


def det(first, second, third):
    """The determinant of the matrix with these three rows."""
    a, b, c = first
    d, e, f = second
    g, h, i = third
    return a * (e * i - f * h) - b * (d * i - f * g) + c * (d * h - e * g)


def scaled(factor, vector):
    """A vector times a quotient."""
    return tuple([factor * part for part in vector])


def added(first, second):
    return tuple([part + other for part, other in zip(first, second)])


def taken(first, second):
    """The first vector less the second one."""
    return tuple([part - other for part, other in zip(first, second)])


def sum_of(vectors):
    """The sum of a list or tuple of vectors."""
    result = black()
    for vector in vectors:
        result = added(result, vector)
    return result
