import unittest
from fractions import Fraction
from itertools import combinations, product

from colormatch.errors import ColorError, IsBlack
from colormatch.matches import other_match
from colormatch.observers import Observer, View, color_of
from colormatch.quotients import Quotient, one, whole, zero
from colormatch.reflectances import band_pattern
from colormatch.solid import brightest, high, low, surface_of, surface_test
from colormatch.vectors import black, scaled
from samples import (
    EXAMPLE, HALF, TINY, beside, corner_reflectances, curve_bands, example_view, fraction_det, fraction_sum,
    fractions, moved, patterns, picture, quotients, solved, some_colors, some_patterns, some_reflectances, texts,
    views,
)

GREAT = 10 ** 24


def bounds_by_the_words(view, i, j):
    """Point 20 of the document, in fractions: low and high of two bands."""
    generators = [fractions(generator) for generator in view.generators]
    dets = [fraction_det(generators[i], generators[j], generator) for generator in generators]
    return sum(dets[i + 1:j], Fraction(0)), sum(dets[:i] + dets[j + 1:], Fraction(0))


def place(view, i, j, color):
    return fraction_det(fractions(view.generators[i]), fractions(view.generators[j]), fractions(color))


def pair_by_the_words(view, color):
    """Points 20 and 23: the first pair that a color does not satisfy, and the side."""
    for i, j in combinations(range(len(view)), 2):
        least, greatest = bounds_by_the_words(view, i, j)
        if place(view, i, j, color) < least:
            return (i, j, "low")
        if place(view, i, j, color) > greatest:
            return (i, j, "high")
    return None


def factor_by_the_words(view, color):
    """Point 22: the factor."""
    found = []
    for i, j in combinations(range(len(view)), 2):
        least, greatest = bounds_by_the_words(view, i, j)
        at = place(view, i, j, color)
        if at != 0:
            found.append((least if at < 0 else greatest) / at)
    return min(found)


def factor_among_corners(view, color):
    """Point 21: the greatest t for which t times the color is the color of some reflectance.

    It is found without bounds, by trying all reflectances in which at most
    two values are neither 0 nor 1.
    """
    generators = [fractions(generator) for generator in view.generators]
    away = tuple(-part for part in fractions(color))
    greatest = Fraction(0)
    for i, j in combinations(range(len(view)), 2):
        if fraction_det(generators[i], generators[j], away) == 0:
            continue
        others = [band for band in range(len(view)) if band not in (i, j)]
        for bits in product((0, 1), repeat=len(others)):
            fixed = fraction_sum([generators[band] for band in others], bits)
            rest = tuple(-part for part in fixed)
            first, second, factor = solved([generators[i], generators[j], away], rest)
            if 0 <= first <= 1 and 0 <= second <= 1:
                greatest = max(greatest, factor)
    return greatest


def plain_colors():
    return (quotients(" ".join(parts)) for parts in product(("-1", "0", "1/2", "1", "2", "5"), repeat=3))


def lit_colors(view, count, seed):
    """Colors of reflectances, none of them black, the same ones for the same seed."""
    colors = [color_of(view, reflectance) for reflectance in some_reflectances(len(view), count, seed)]
    return [color for color in colors if color != black()]


class Bounds(unittest.TestCase):
    def test_the_example_of_the_document(self):
        view = example_view()
        told = {pair: (str(low(view, *pair)), str(high(view, *pair))) for pair in combinations(range(4), 2)}
        self.assertEqual(told, {
            (0, 1): ("0", "8"), (0, 2): ("-2", "6"), (0, 3): ("-12", "0"),
            (1, 2): ("0", "4"), (1, 3): ("-2", "6"), (2, 3): ("0", "8"),
        })

    def test_the_lamp_counts(self):
        # Each determinant is multiplied by the values of the lamp for its three bands.
        view = example_view((1, 2, 3, 4))
        told = {pair: (str(low(view, *pair)), str(high(view, *pair))) for pair in combinations(range(4), 2)}
        self.assertEqual(told, {
            (0, 1): ("0", "60"), (0, 2): ("-12", "72"), (0, 3): ("-120", "0"),
            (1, 2): ("0", "60"), (1, 3): ("-48", "48"), (2, 3): ("0", "120"),
        })

    def test_all_views(self):
        for view in views():
            for i, j in combinations(range(len(view)), 2):
                told = (low(view, i, j), high(view, i, j))
                self.assertEqual([type(value) for value in told], [Quotient] * 2)
                self.assertEqual(fractions(told), bounds_by_the_words(view, i, j))

    def test_sums_without_bands(self):
        for view in views():
            last = len(view) - 1
            self.assertEqual(high(view, 0, last), zero())
            for band in range(last):
                self.assertEqual(low(view, band, band + 1), zero())

    def test_sums_with_bands_have_a_sign(self):
        for view in views():
            for i, j in combinations(range(len(view)), 2):
                self.assertEqual(low(view, i, j) < zero(), j - i > 1)
                self.assertEqual(zero() < high(view, i, j), (i, j) != (0, len(view) - 1))


class Tests(unittest.TestCase):
    def assert_test(self, view, color, told):
        found = surface_test(view, color)
        self.assertEqual(found, told)
        if found is not None:
            self.assertEqual([type(part) for part in found], [int, int, str])
            self.assertIs(type(found), tuple)

    def test_the_examples_of_the_document(self):
        view = View(Observer(((1, 0, 0), (1, 1, 1), (1, 2, 4), (1, 3, 9))), (1, 1, 1, 1))
        self.assert_test(view, quotients("1 1 2"), None)
        self.assert_test(view, quotients("1 0 1"), (0, 3, "high"))

    def test_the_first_pair_of_several(self):
        view = example_view()
        for color, told in (
            ("1 2 1", (0, 1, "low")),
            ("2 -1 -1", (0, 3, "high")),
            ("0 0 9", (0, 1, "high")),
            ("100 0 0", (1, 2, "high")),
            ("-1 0 0", (1, 2, "low")),
            ("0 1 0", (0, 1, "low")),
            ("5 10 28", (0, 1, "high")),
        ):
            with self.subTest(color):
                self.assertEqual(pair_by_the_words(view, quotients(color)), told)
                self.assert_test(view, quotients(color), told)

    def test_plain_colors(self):
        for view in list(views())[:5]:
            for color in plain_colors():
                self.assert_test(view, color, pair_by_the_words(view, color))

    def test_small_and_great_colors(self):
        for view in views():
            for color in some_colors(60, 51):
                self.assert_test(view, color, pair_by_the_words(view, color))
                wide = tuple(whole(GREAT) * part for part in color)
                self.assert_test(view, wide, pair_by_the_words(view, wide))

    def test_each_pair_and_side_can_be_the_first(self):
        for view in views():
            seen = set()
            for i, j, kind, reflectance in patterns(len(view), (HALF,)):
                side = "low" if kind == "pass" else "high"
                step = -TINY if side == "low" else TINY
                color = color_of(view, reflectance)
                # The color is on this bound alone: a small step satisfies all pairs, or all but this one.
                self.assert_test(view, color, None)
                self.assert_test(view, beside(view, i, j, color, -step), None)
                self.assert_test(view, beside(view, i, j, color, step), (i, j, side))
                seen.add((i, j, side))
            self.assertEqual(len(seen), len(view) * (len(view) - 1))

    def test_colors_on_several_bounds(self):
        # With 0 and 1 at the ends, several patterns have the color.
        for view in views():
            for *_, reflectance in some_patterns(len(view), (zero(), one())):
                color = color_of(view, reflectance)
                self.assert_test(view, color, None)
                for near in moved(color, TINY):
                    self.assert_test(view, near, pair_by_the_words(view, near))

    def test_colors_of_reflectances(self):
        for view in views():
            for color in lit_colors(view, 40, 52):
                self.assert_test(view, color, None)

    def test_all_small_reflectances(self):
        for view in (example_view((5, 1, 2, 3)), View(Observer(curve_bands(0, 1, 2, 4, 9)), (1,) * 5)):
            for reflectance in product((zero(), HALF, one()), repeat=len(view)):
                self.assert_test(view, color_of(view, reflectance), None)

    def test_black_and_the_lamp_itself(self):
        for view in views():
            lit = color_of(view, (one(),) * len(view))
            self.assert_test(view, black(), None)
            self.assert_test(view, lit, None)
            for color in (scaled(one() + TINY, lit), scaled(-TINY, lit)):
                told = pair_by_the_words(view, color)
                self.assertIsNotNone(told)
                self.assert_test(view, color, told)
            self.assert_test(view, scaled(one() - TINY, lit), None)

    def test_surface_colors_are_those_of_reflectances(self):
        seen = set()
        for view in list(views())[:6]:
            brighter = [scaled(Quotient(9, 8), color) for color in lit_colors(view, 8, 54)]
            for color in list(some_colors(12, 53)) + brighter:
                has_one = len(corner_reflectances(view, color)) > 0
                self.assertEqual(surface_test(view, color) is None, has_one)
                seen.add(has_one)
        self.assertEqual(seen, {True, False})


class Brightest(unittest.TestCase):
    def check(self, view, color):
        """Whether the answer for a color is what points 21 and 22 say; the answer."""
        told = brightest(view, color)
        factor = factor_by_the_words(view, color)
        self.assertEqual(told is None, factor == 0)
        if told is None:
            self.assertIsNotNone(surface_test(view, scaled(TINY, color)))
            return None
        self.assertEqual([type(part) for part in told], [Quotient, tuple, tuple])
        most, reflectance, brightest_color = told
        self.assertEqual(fractions((most,)), (factor,))
        self.assertEqual(brightest_color, scaled(most, color))
        self.assertEqual(color_of(view, reflectance), brightest_color)
        self.assertIsNotNone(band_pattern(reflectance))
        self.assertIsNone(other_match(view, reflectance))
        self.assertIsNone(surface_test(view, brightest_color))
        self.assertIsNone(surface_test(view, scaled(most - most * TINY, color)))
        self.assertIsNotNone(surface_test(view, scaled(most + TINY, color)))
        return told

    def test_the_examples_of_the_document(self):
        view = View(Observer(((1, 0, 0), (1, 1, 1), (1, 2, 4), (1, 3, 9))), (1, 1, 1, 1))
        factor, reflectance, color = brightest(view, quotients("1 1 2"))
        self.assertEqual((str(factor), texts(reflectance), texts(color)), ("8/3", "1 1 1/3 1/3", "8/3 8/3 16/3"))
        self.assertIsNone(brightest(view, quotients("1 0 1")))

    def test_by_hand(self):
        view = example_view()
        for color, told in (
            ("1 0 0", ("1", "1 0 0 0", "1 0 0")),
            ("2 2 2", ("1/2", "0 1 0 0", "1 1 1")),
            ("4 6 14", ("1", "1 1 1 1", "4 6 14")),
            ("2 3 7", ("2", "1 1 1 1", "4 6 14")),
            ("3/2 1/2 1/2", ("1", "1 1/2 0 0", "3/2 1/2 1/2")),
        ):
            found = self.check(view, quotients(color))
            self.assertEqual((str(found[0]), texts(found[1]), texts(found[2])), told)

    def test_a_factor_of_0(self):
        view = example_view()
        for color in ("-1 -1 -2", "1 0 1", "0 0 1", "0 1 0", "1 -1 1", "-1 0 0", "1 3 8", "0 1 3"):
            with self.subTest(color):
                self.assertIsNone(brightest(view, quotients(color)))
                self.assertEqual(factor_by_the_words(view, quotients(color)), 0)

    def test_plain_colors(self):
        for view in list(views())[:5]:
            for color in plain_colors():
                if color != black():
                    self.check(view, color)

    def test_small_and_great_colors(self):
        for view in views():
            for color in some_colors(30, 55):
                self.check(view, color)
            for color in lit_colors(view, 20, 56):
                for factor in (TINY, one(), Quotient(GREAT, 3)):
                    self.check(view, scaled(factor, color))

    def test_patterns(self):
        # With 0 and 1 at the ends the factor is found at several pairs; without, at one.
        for view in views():
            for *_, reflectance in some_patterns(len(view), (zero(), Quotient(1, 3), one())):
                color = color_of(view, reflectance)
                if color == black():
                    continue
                # If the bound of the pair is 0, the color can be made brighter; else it is the brightest one.
                factor, brightest_reflectance, _ = self.check(view, color)
                if factor == one():
                    self.assertEqual(brightest_reflectance, reflectance)
                for share in (TINY, Quotient(3, 7), whole(GREAT)):
                    again = brightest(view, scaled(share, color))
                    self.assertEqual(again[0] * share, factor)
                    self.assertEqual(again[1], brightest_reflectance)

    def test_patterns_of_0_and_1_are_brightest(self):
        view = example_view((3, 1, 2, 5))
        for text in ("1 1 1 1", "1 1 0 0", "0 1 1 0", "0 0 1 1", "1 0 0 1", "1 0 0 0", "0 1 0 0", "1 1 1 0", "1 0 1 1"):
            reflectance = quotients(text)
            factor, found, _ = brightest(view, color_of(view, reflectance))
            self.assertEqual((factor, found), (one(), reflectance))

    def test_the_factor_is_the_greatest_one(self):
        seen = set()
        for view in list(views())[:6]:
            colors = list(some_colors(10, 57)) + [quotients(text) for text in ("1 1 2", "1 0 1", "1 2 4", "3 1 1")]
            for color in colors + lit_colors(view, 4, 58):
                if color == black():
                    continue
                told = brightest(view, color)
                greatest = factor_among_corners(view, color)
                self.assertEqual(Fraction(0) if told is None else fractions(told[:1])[0], greatest)
                seen.add(told is None)
        self.assertEqual(seen, {True, False})

    def test_the_brightest_color_has_a_single_reflectance(self):
        for view in list(views())[:6]:
            for color in lit_colors(view, 6, 59):
                if color != black():
                    _, reflectance, brightest_color = brightest(view, color)
                    self.assertEqual(corner_reflectances(view, brightest_color), {fractions(reflectance)})

    def test_black(self):
        for view in views():
            with self.assertRaises(IsBlack):
                brightest(view, black())
            with self.assertRaises(IsBlack):
                brightest(view, (Quotient(0, -7), whole(0), zero()))
        self.assertTrue(issubclass(IsBlack, ColorError))


class Surfaces(unittest.TestCase):
    def check(self, view, color):
        reflectance = surface_of(view, color)
        self.assertEqual(reflectance is None, pair_by_the_words(view, color) is not None)
        if reflectance is not None:
            self.assertIs(type(reflectance), tuple)
            self.assertEqual(color_of(view, reflectance), color)
        return reflectance

    def test_by_hand(self):
        view = example_view()
        for color, told in (
            ("1 1 2", "3/8 3/8 1/8 1/8"), ("8/3 8/3 16/3", "1 1 1/3 1/3"), ("2 3 7", "1/2 1/2 1/2 1/2"),
            ("1 0 0", "1 0 0 0"), ("1/3 0 0", "1/3 0 0 0"), ("0 0 0", "0 0 0 0"), ("4 6 14", "1 1 1 1"),
        ):
            self.assertEqual(texts(surface_of(view, quotients(color))), told)

    def test_no_surface_color(self):
        view = example_view()
        for color in ("1 0 1", "-1 -1 -2", "3 3 6", "5 7 17", "0 0 1", "4 6 15", "2 0 0"):
            self.assertIsNone(surface_of(view, quotients(color)))

    def test_black(self):
        for view in views():
            self.assertEqual(surface_of(view, black()), (zero(),) * len(view))

    def test_it_is_that_of_the_brightest_color_divided_by_the_factor(self):
        for view in views():
            for color in lit_colors(view, 30, 60):
                reflectance = self.check(view, color)
                if color != black():
                    factor, most, _ = brightest(view, color)
                    self.assertEqual(reflectance, tuple(value.over(factor) for value in most))
                    self.assertLessEqual(one(), factor)

    def test_plain_and_other_colors(self):
        for view in list(views())[:5]:
            for color in plain_colors():
                self.check(view, color)
        for view in views():
            for color in some_colors(40, 61):
                self.check(view, color)

    def test_multiples_by_the_factor(self):
        for view in views():
            for color in lit_colors(view, 10, 62):
                if color == black():
                    continue
                factor, reflectance, brightest_color = brightest(view, color)
                self.assertEqual(self.check(view, brightest_color), reflectance)
                self.assertIsNone(self.check(view, scaled(factor + TINY, color)))
                self.assertIsNotNone(self.check(view, scaled(factor - TINY, color)))

    def test_colors_of_patterns(self):
        for view in views():
            for *_, reflectance in some_patterns(len(view), (zero(), HALF, one())):
                # A pattern is the only reflectance with its color.
                self.assertEqual(self.check(view, color_of(view, reflectance)), reflectance)


class Unchanged(unittest.TestCase):
    def test_no_argument_changes(self):
        view = example_view((1, 2, 3, 4))
        colors = [quotients(text) for text in ("2 3 7", "1 0 1", "0 0 0", "100 100 -1")]
        before = picture([view, colors])
        for color in colors:
            low(view, 0, 2)
            high(view, 0, 2)
            surface_test(view, color)
            surface_of(view, color)
            if color == black():
                with self.assertRaises(IsBlack):
                    brightest(view, color)
            else:
                brightest(view, color)
        self.assertEqual(picture([view, colors]), before)
        self.assertEqual((view.observer.bands, view.lamp), (EXAMPLE, (1, 2, 3, 4)))


if __name__ == "__main__":
    unittest.main()
