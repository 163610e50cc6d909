import unittest
from itertools import product

from colormatch.matches import other_match
from colormatch.observers import Observer, View, color_of, is_match
from colormatch.quotients import Quotient, one, whole, zero
from colormatch.ranges import band_range, least_reflectance
from colormatch.reflectances import band_pattern
from colormatch.solid import surface_of, surface_test
from colormatch.vectors import black, scaled, taken
from samples import (
    EXAMPLE, HALF, TINY, UNITS, beside, corner_reflectances, curve_bands, example_view, fractions, patterns, picture,
    quotients, some_colors, some_patterns, some_reflectances, texts, views,
)

GREAT = 10 ** 24


def ranges_of(view, color):
    """The ranges of all bands, in fractions; None for no surface color."""
    ranges = [band_range(view, color, band) for band in range(len(view))]
    if None in ranges:
        assert ranges == [None] * len(view)
        return None
    assert all(type(ends) is tuple and [type(end) for end in ends] == [Quotient] * 2 for ends in ranges)
    return [fractions(ends) for ends in ranges]


def ranges_among(corners):
    """The least and the greatest value of each band among some reflectances."""
    return [(min(values), max(values)) for values in zip(*corners)]


class Ranges(unittest.TestCase):
    def assert_ranges(self, view, color, told):
        ranges = [band_range(view, quotients(color), band) for band in range(len(view))]
        self.assertEqual([texts(ends) for ends in ranges], told)

    def test_the_example_of_the_document(self):
        view = View(Observer(((1, 0, 0), (1, 1, 1), (1, 2, 4), (1, 3, 9))), (1, 1, 1, 1))
        self.assert_ranges(view, "2 3 7", ["1/3 2/3", "0 1", "0 1", "1/3 2/3"])

    def test_by_hand(self):
        view = example_view()
        # The reflectances of a color differ by multiples of (1, -3, 3, -1).
        for color, told in (
            ("0 0 0", ["0 0"] * 4),
            ("4 6 14", ["1 1"] * 4),
            ("1 0 0", ["1 1", "0 0", "0 0", "0 0"]),
            ("1/2 1/2 1/2", ["0 0", "1/2 1/2", "0 0", "0 0"]),
            ("8/3 8/3 16/3", ["1 1", "1 1", "1/3 1/3", "1/3 1/3"]),
            # (3/8, 3/8, 1/8, 1/8), (1/2, 1/2, 1/2, 1/4) and (1/2, 0, 1/2, 1/2) have these colors.
            ("1 1 2", ["1/3 1/2", "0 1/2", "0 1/2", "0 1/6"]),
            ("7/4 9/4 19/4", ["1/3 2/3", "0 1", "0 1", "1/12 5/12"]),
            ("3/2 5/2 13/2", ["1/3 1/2", "0 1/2", "0 1/2", "1/2 2/3"]),
        ):
            with self.subTest(color):
                self.assert_ranges(view, color, told)

    def test_no_surface_color(self):
        for view in views():
            beyond = scaled(one() + TINY, color_of(view, (one(),) * len(view)))
            for color in (quotients("0 0 1000000"), quotients("-1 -1 -2"), beyond, quotients("0 -1 0")):
                self.assertIsNotNone(surface_test(view, color))
                self.assertIsNone(ranges_of(view, color))
                self.assertIsNone(least_reflectance(view, color))

    def test_ranges_from_0_to_1(self):
        seen = 0
        for view in list(views())[3:]:
            ranges = ranges_of(view, color_of(view, (HALF,) * len(view)))
            seen += (0, 1) in ranges
        self.assertEqual(seen, 4)

    def test_the_ends_are_those_among_all_reflectances(self):
        for view in views():
            for reflectance in some_reflectances(len(view), 12 if len(view) < 7 else 5, 71):
                color = color_of(view, reflectance)
                ranges = ranges_of(view, color)
                self.assertEqual(ranges, ranges_among(corner_reflectances(view, color)))
                for value, (least, greatest) in zip(fractions(reflectance), ranges, strict=True):
                    self.assertTrue(0 <= least <= value <= greatest <= 1)

    def test_small_reflectances(self):
        for view in (example_view((5, 1, 2, 3)), View(Observer(curve_bands(0, 1, 2, 4, 9)), (1,) * 5)):
            for reflectance in product((zero(), HALF, one()), repeat=len(view)):
                color = color_of(view, reflectance)
                self.assertEqual(ranges_of(view, color), ranges_among(corner_reflectances(view, color)))

    def test_determinants_of_1(self):
        view = View(Observer(UNITS), (1, 1, 1, 1))
        for reflectance in product((zero(), HALF, one()), repeat=4):
            color = color_of(view, reflectance)
            self.assertEqual(ranges_of(view, color), ranges_among(corner_reflectances(view, color)))

    def test_any_colors(self):
        seen = set()
        for view in list(views())[:5]:
            for color in some_colors(30, 72):
                corners = corner_reflectances(view, color)
                seen.add(len(corners) > 0)
                self.assertEqual(ranges_of(view, color), ranges_among(corners) or None)
        self.assertEqual(seen, {True, False})

    def test_each_value_of_a_range_is_that_of_a_reflectance(self):
        for view in views():
            for reflectance in some_reflectances(len(view), 4 if len(view) < 7 else 1, 73):
                color = color_of(view, reflectance)
                for band in range(len(view)):
                    least, greatest = band_range(view, color, band)
                    for share in (zero(), Quotient(1, 3), one()):
                        value = least + share * (greatest - least)
                        self.assert_can_have(view, color, band, value, True)
                    for value in (least - TINY, greatest + TINY):
                        self.assert_can_have(view, color, band, value, False)

    def assert_can_have(self, view, color, band, value, told):
        """Whether the color has a reflectance with this value in a band, tried with the color of the others."""
        fixed = [zero()] * len(view)
        fixed[band] = value
        found = []
        if zero() <= value <= one():
            rest = taken(color, color_of(view, tuple(fixed)))
            found = [corner for corner in corner_reflectances(view, rest) if corner[band] == 0]
        self.assertEqual(len(found) > 0, told)


class SingleValues(unittest.TestCase):
    """All ranges are single values exactly for the color of a band pattern, so exactly without another match."""

    def check(self, view, reflectance):
        ranges = ranges_of(view, color_of(view, reflectance))
        single = all(least == greatest for least, greatest in ranges)
        self.assertEqual(single, band_pattern(reflectance) is not None)
        self.assertEqual(single, other_match(view, reflectance) is None)
        return single, ranges

    def test_patterns(self):
        for view in views():
            for *_, reflectance in some_patterns(len(view), (zero(), Quotient(2, 3), one())):
                single, ranges = self.check(view, reflectance)
                self.assertTrue(single)
                self.assertEqual(ranges, [(value, value) for value in fractions(reflectance)])
                self.assertEqual(least_reflectance(view, color_of(view, reflectance)), reflectance)

    def test_small_reflectances(self):
        for view in list(views())[:6]:
            values = (zero(), HALF, one()) if len(view) < 6 else (zero(), one())
            seen = {self.check(view, reflectance)[0] for reflectance in product(values, repeat=len(view))}
            self.assertEqual(seen, {True, False})

    def test_nearly_patterns(self):
        view = example_view((3, 1, 2, 5))
        for reflectance in product((zero(), TINY, one() - TINY, one()), repeat=4):
            self.check(view, reflectance)

    def test_beside_a_bound(self):
        # A step away from the bound of a pair, and no range is a single value.
        for view in views():
            for i, j, kind, reflectance in patterns(len(view), (HALF,)):
                step = TINY if kind == "pass" else -TINY
                color = beside(view, i, j, color_of(view, reflectance), step)
                ranges = ranges_of(view, color)
                self.assertTrue(all(least < greatest for least, greatest in ranges))


class Least(unittest.TestCase):
    def check(self, view, color):
        told = least_reflectance(view, color)
        self.assertEqual(told is None, surface_test(view, color) is not None)
        if told is not None:
            self.assertIs(type(told), tuple)
            self.assertEqual(color_of(view, told), color)
            self.assertEqual(told[0], band_range(view, color, 0)[0])
            self.assertLessEqual(fractions(told), fractions(surface_of(view, color)))
        return told

    def test_the_example_of_the_document(self):
        view = View(Observer(((1, 0, 0), (1, 1, 1), (1, 2, 4), (1, 3, 9))), (1, 1, 1, 1))
        self.assertEqual(texts(least_reflectance(view, quotients("2 3 7"))), "1/3 1 0 2/3")

    def test_by_hand(self):
        view = example_view()
        for color, told in (
            ("0 0 0", "0 0 0 0"), ("4 6 14", "1 1 1 1"), ("1 1 2", "1/3 1/2 0 1/6"), ("1 0 0", "1 0 0 0"),
            ("7/4 9/4 19/4", "1/3 1 0 5/12"), ("3/2 5/2 13/2", "1/3 1/2 0 2/3"),
        ):
            with self.subTest(color):
                self.assertEqual(texts(self.check(view, quotients(color))), told)

    def test_it_is_the_first_of_all_reflectances(self):
        for view in views():
            for reflectance in some_reflectances(len(view), 12 if len(view) < 7 else 5, 74):
                color = color_of(view, reflectance)
                told = self.check(view, color)
                self.assertEqual(fractions(told), min(corner_reflectances(view, color)))
                self.assertLessEqual(fractions(told), fractions(reflectance))

    def test_small_reflectances(self):
        for view in (example_view((5, 1, 2, 3)), View(Observer(curve_bands(0, 1, 2, 4, 9)), (1,) * 5)):
            for reflectance in product((zero(), HALF, one()), repeat=len(view)):
                color = color_of(view, reflectance)
                self.assertEqual(fractions(self.check(view, color)), min(corner_reflectances(view, color)))

    def test_it_is_not_behind_any_other_one(self):
        for view in views():
            for reflectance in some_reflectances(len(view), 20, 75):
                told = self.check(view, color_of(view, reflectance))
                other = reflectance
                for _ in range(4):
                    other = other_match(view, other)
                    if other is None:
                        break
                    self.assertTrue(is_match(view, told, other))
                    self.assertLessEqual(fractions(told), fractions(other))

    def test_any_colors(self):
        for view in views():
            for color in some_colors(30, 76):
                self.check(view, color)

    def test_great_quotients(self):
        view = example_view((100, 99, 98, 97))
        reflectance = (Quotient(GREAT, GREAT + 1), Quotient(1, GREAT), Quotient(GREAT - 1, GREAT), HALF)
        color = color_of(view, reflectance)
        self.assertEqual(fractions(self.check(view, color)), min(corner_reflectances(view, color)))
        self.assertIsNone(self.check(view, scaled(whole(GREAT), color)))

    def test_black(self):
        for view in views():
            self.assertEqual(least_reflectance(view, black()), (zero(),) * len(view))
            self.assertEqual(ranges_of(view, black()), [(0, 0)] * len(view))


class Unchanged(unittest.TestCase):
    def test_no_argument_changes(self):
        view = example_view((1, 2, 3, 4))
        colors = [quotients(text) for text in ("5 10 25", "1 0 1", "0 0 0")]
        before = picture([view, colors])
        for color in colors:
            told = (ranges_of(view, color), least_reflectance(view, color))
            self.assertEqual((ranges_of(view, color), least_reflectance(view, color)), told)
        self.assertEqual(picture([view, colors]), before)
        self.assertEqual((view.observer.bands, view.lamp), (EXAMPLE, (1, 2, 3, 4)))


if __name__ == "__main__":
    unittest.main()
