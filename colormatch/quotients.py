"""Exact quotients of integers."""

from math import gcd

from colormatch.errors import BadQuotient

PIECE_DIGITS = 18
PIECE = 1000000000000000000


class Quotient:
    """A quotient of two integers, kept in lowest terms with a positive bottom."""

    def __init__(self, top, bottom):
        if bottom == 0:
            raise BadQuotient("the bottom of a quotient is 0")
        common = gcd(top, bottom)
        if bottom < 0:
            common = -common
        self.top = top // common
        self.bottom = bottom // common

    def __add__(self, other):
        return Quotient(self.top * other.bottom + other.top * self.bottom, self.bottom * other.bottom)

    def __sub__(self, other):
        return Quotient(self.top * other.bottom - other.top * self.bottom, self.bottom * other.bottom)

    def __mul__(self, other):
        return Quotient(self.top * other.top, self.bottom * other.bottom)

    def __neg__(self):
        return Quotient(-self.top, self.bottom)

    def __eq__(self, other):
        return isinstance(other, Quotient) and self.top == other.top and self.bottom == other.bottom

    def __lt__(self, other):
        return self.top * other.bottom < other.top * self.bottom

    def __le__(self, other):
        return self.top * other.bottom <= other.top * self.bottom

    def __str__(self):
        if self.bottom == 1:
            return f"{_integer_text(self.top)}"
        return f"{_integer_text(self.top)}/{_integer_text(self.bottom)}"

    def over(self, other):
        """This quotient divided by another one; BadQuotient if that one is zero."""
        # The new bottom is 0 exactly if the other quotient is zero.
        return Quotient(self.top * other.bottom, self.bottom * other.top)


def whole(number):
    """An integer as a quotient."""
    return Quotient(number, 1)


def zero():
    return whole(0)


def one():
    return whole(1)


def total(quotients):
    """The sum of a list or tuple of quotients."""
    result = zero()
    for quotient in quotients:
        result = result + quotient
    return result


def is_quotient(value):
    return isinstance(value, Quotient)


def sign_of(quotient):
    """1, 0 or -1: whether a quotient is positive, zero or negative."""
    if quotient.top > 0:
        return 1
    return -1 if quotient.top < 0 else 0


def size_of(quotient):
    """The absolute value of a quotient."""
    return -quotient if quotient.top < 0 else quotient


def _integer_text(number):
    # Python's str refuses integers of more than 4300 digits, and integers here
    # may be however great: so the text is put together from pieces.
    sign = "-" if number < 0 else ""
    rest = abs(number)
    pieces = []
    while rest >= PIECE:
        rest, piece = divmod(rest, PIECE)
        pieces.append(str(piece).zfill(PIECE_DIGITS))
    pieces.append(str(rest))
    digits = "".join(pieces[::-1])
    return f"{sign}{digits}"
