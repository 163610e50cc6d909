"""Reflectances: their texts, filters over them, crossings of two, band patterns."""

from colormatch.errors import LengthsDiffer, TextFault
from colormatch.quotients import Quotient, one, sign_of, whole, zero
from colormatch.vectors import taken

DIGITS = "0123456789"
MOST_DIGITS = 4
MOST_VALUES = 8
HUNDRED = 100
PASS = "pass"
STOP = "stop"


def parse_reflectance(text):
    """The reflectance of a text; TextFault with the place of the fault if it is none."""
    values = []
    place = _behind_spaces(text, 0)
    while place < len(text):
        if len(values) == MOST_VALUES:
            raise TextFault(place)
        value, end = _read_value(text, place)
        values.append(value)
        place = _behind_spaces(text, end)
    if len(values) == 0:
        raise TextFault(place)
    return tuple(values)


def format_reflectance(reflectance):
    """The texts of the values, with single spaces between them."""
    return " ".join([str(value) for value in reflectance])


def filtered(first, second):
    """The products of the values of two reflectances, band by band."""
    _require_equal_lengths(first, second)
    return tuple([value * other for value, other in zip(first, second)])


def crossings(first, second):
    """How often the sign of the difference of two reflectances changes."""
    _require_equal_lengths(first, second)
    blocks = sign_blocks(taken(first, second))
    return len(blocks) - 1 if len(blocks) > 0 else 0


def sign_blocks(differences):
    """The blocks of equal signs: lists of the places of differences other than 0."""
    blocks = []
    last_sign = 0
    for place, difference in enumerate(differences):
        sign = sign_of(difference)
        if sign == 0:
            continue
        if sign != last_sign:
            blocks.append([])
        blocks[-1].append(place)
        last_sign = sign
    return blocks


def band_pattern(reflectance):
    """The first band pattern (i, j, kind) that a reflectance is, or None."""
    passing = _first_pair(reflectance, PASS)
    stopping = _first_pair(reflectance, STOP)
    if passing is None and stopping is None:
        return None
    if stopping is None or (passing is not None and passing <= stopping):
        i, j = passing
        return (i, j, PASS)
    i, j = stopping
    return (i, j, STOP)


def is_band_pattern(reflectance, pair, kind):
    """Whether a reflectance is the band pattern of two bands i < j and a kind."""
    i, j = pair
    inner, outer = pattern_parts(kind)
    return (
        _is_all(reflectance, 0, i, outer)
        and _is_all(reflectance, i + 1, j, inner)
        and _is_all(reflectance, j + 1, len(reflectance), outer)
    )


def pattern_parts(kind):
    """The value between the two bands of a band pattern of a kind, and the value outside."""
    return (one(), zero()) if kind == PASS else (zero(), one())


def _require_equal_lengths(first, second):
    if len(first) != len(second):
        raise LengthsDiffer("the two reflectances have unequal lengths")


def _first_pair(reflectance, kind):
    """The first bands (i, j) of a band pattern of a kind that a reflectance is, or None."""
    inner, outer = pattern_parts(kind)
    count = len(reflectance)
    least = count - 1
    # No j ahead of the last band without the outer value can do.
    while least > 0 and reflectance[least] == outer:
        least -= 1
    for i in range(count - 1):
        if i > 0 and reflectance[i - 1] != outer:
            return None
        j = least if least > i + 1 else i + 1
        if _is_all(reflectance, i + 1, j, inner):
            return (i, j)
    return None


def _is_all(reflectance, start, end, wanted):
    for band in range(start, end):
        if reflectance[band] != wanted:
            return False
    return True


def _behind_spaces(text, place):
    while place < len(text) and text[place] == " ":
        place += 1
    return place


def _read_value(text, start):
    """The value that begins at a place, and the place behind it."""
    end = _number_end(text, start)
    top = int(text[start:end])
    value = whole(top)
    if text[end:end + 1] == "/":
        bottom_start = end + 1
        end = _bottom_end(text, bottom_start, top)
        value = Quotient(top, int(text[bottom_start:end]))
    elif text[end:end + 1] == "c" and top <= HUNDRED:
        end += 1
        value = Quotient(top, HUNDRED)
    # A value above 1 could still go on with "/" or more digits, but cannot end here.
    if one() < value or text[end:end + 1] not in ("", " "):
        raise TextFault(end)
    return value, end


def _number_end(text, start):
    """The place behind the longest number that begins at a place."""
    if text[start:start + 1] == "0":
        return start + 1
    end = start
    while end < len(text) and end - start < MOST_DIGITS and text[end] in DIGITS:
        end += 1
    if end == start:
        raise TextFault(start)
    return end


def _bottom_end(text, start, top):
    """The place behind the bottom, of which each beginning can become one not below the top."""
    end = _number_end(text, start)
    if text[start] == "0":
        raise TextFault(start)
    # With nines behind it, a beginning becomes the greatest bottom that it can.
    for place in range(start, end):
        greatest = int(text[start:place + 1].ljust(MOST_DIGITS, "9"))
        if greatest < top:
            raise TextFault(place)
    return end
