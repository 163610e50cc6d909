import unittest
from fractions import Fraction
from itertools import combinations, groupby, product

from colormatch.errors import BadReflectance
from colormatch.matches import matching_lamp, other_match
from colormatch.observers import Observer, View, color_of, is_match
from colormatch.quotients import Quotient, one, zero
from colormatch.reflectances import band_pattern, crossings, parse_reflectance
from colormatch.vectors import scaled, sum_of
from samples import (
    EXAMPLE, HALF, bad_reflectances, curve_bands, example_view, fraction_det, fractions, quotients, some_reflectances,
    texts, views,
)

GREAT = 10 ** 24
SMALL = (zero(), HALF, one())


def pairs_with(differences):
    """Two reflectances with these differences, each from -1 to 1."""
    first = tuple(difference if zero() < difference else zero() for difference in differences)
    second = tuple(-difference if difference < zero() else zero() for difference in differences)
    return first, second


def weighted_color(observer, weights, reflectance):
    rows = zip(weights, reflectance, observer.vectors, strict=True)
    return sum_of([scaled(weight * value, vector) for weight, value, vector in rows])


def weights_by_the_words(bands, first, second):
    """Point 16 of the document, in fractions."""
    differences = [a - b for a, b in zip(fractions(first), fractions(second))]
    unequal = [band for band in range(len(bands)) if differences[band] != 0]
    blocks = [list(block) for _, block in groupby(unequal, key=lambda band: differences[band] > 0)]
    if not blocks:
        return (1,) * len(bands)
    if len(blocks) < 4:
        return None
    weights = [Fraction(0 if difference else 1) for difference in differences]
    for t, block in enumerate(blocks):
        for b in block:
            s = min(t, len(blocks) - 4)
            four = sorted([b] + [blocks[u][0] for u in range(s, s + 4) if u != t])
            assert len(four) == 4
            for one_of_them in four:
                others = [bands[other] for other in four if other != one_of_them]
                weights[one_of_them] += fraction_det(*others) / abs(differences[one_of_them])
    return tuple(weights)


class Lamps(unittest.TestCase):
    def assert_weights(self, observer, first, second, told):
        weights = matching_lamp(observer, first, second)
        self.assertIs(type(weights), tuple)
        self.assertEqual(texts(weights), told)

    def test_the_example_of_the_document(self):
        observer = Observer(((1, 0, 0), (1, 1, 1), (1, 2, 4), (1, 3, 9)))
        first, second = parse_reflectance("1 0 1 0"), parse_reflectance("0 1 0 1")
        self.assert_weights(observer, first, second, "8 24 24 8")
        self.assert_weights(observer, second, first, "8 24 24 8")

    def test_equal_reflectances(self):
        for view in views():
            for reflectance in some_reflectances(len(view), 5, 31):
                same = tuple(Quotient(value.top, value.bottom) for value in reflectance)
                self.assert_weights(view.observer, reflectance, same, " ".join(["1"] * len(view)))

    def test_sizes_of_the_differences(self):
        observer = Observer(EXAMPLE)
        self.assert_weights(observer, *pairs_with(quotients("1/2 -1/3 1/4 -1/5")), "16 72 96 40")
        self.assert_weights(observer, *pairs_with(quotients("-1/2 1/3 -1/4 1/5")), "16 72 96 40")
        self.assert_weights(observer, quotients("2/3 1/3 1 1/5"), quotients("1/3 2/3 1/2 2/5"), "24 72 48 40")

    def test_five_blocks(self):
        # One band has the first four blocks, the four others have the last four.
        observer = Observer(curve_bands(0, 1, 2, 3, 4))
        self.assert_weights(observer, *pairs_with(quotients("1 -1 1 -1 1")), "2 14 30 26 8")
        self.assert_weights(observer, *pairs_with(quotients("1 -1/2 1 -1 1/4")), "2 28 30 26 32")

    def test_equal_values_and_several_bands_in_a_block(self):
        observer = Observer(curve_bands(0, 1, 2, 3, 4, 5))
        self.assert_weights(observer, *pairs_with(quotients("1 1 0 -1 1 -1")), "8 2 1 92 136 54")
        self.assert_weights(observer, *pairs_with(quotients("0 0 1 -1 1 -1")), "1 1 8 24 24 8")
        self.assert_weights(observer, *pairs_with(quotients("1 -1 1 -1 0 0")), "8 24 24 8 1 1")
        self.assert_weights(observer, *pairs_with(quotients("0 1 -1 1 -1 0")), "1 8 24 24 8 1")

    def test_a_block_around_an_equal_band(self):
        # The bands 0 and 2 are one block, since the difference in band 1 is 0.
        observer = Observer(curve_bands(0, 1, 2, 3, 4, 5))
        first, second = pairs_with(quotients("1 0 1/2 -1 1 -1"))
        self.assert_weights(observer, first, second, "8 1 4 86 126 50")
        self.assertIsNone(matching_lamp(observer, *pairs_with(quotients("1 0 1 -1 0 1"))))

    def test_the_lamp_is_left_out(self):
        self.assertEqual(example_view((1, 2, 3, 4)).observer.bands, EXAMPLE)
        observer = example_view((1, 2, 3, 4)).observer
        self.assert_weights(observer, quotients("1 0 1 0"), quotients("0 1 0 1"), "8 24 24 8")

    def test_one_to_three_blocks(self):
        observer = Observer(curve_bands(0, 1, 2, 3, 4))
        for differences in (
            "1 0 0 0 0", "0 0 0 0 -1/7", "1 1 1 1 1", "0 1 0 1 0", "1 0 0 0 -1", "1 1 -1 -1 -1", "0 1 -1 0 0",
            "1 -1 1 0 0", "1 0 -1 0 1", "0 0 -1 1 -1", "1 1 -1 1 1", "1 -1 -1 -1 1", "-1 -1 0 1/2 -1/3",
        ):
            with self.subTest(differences):
                self.assertIsNone(matching_lamp(observer, *pairs_with(quotients(differences))))

    def test_all_small_differences(self):
        for bands in (EXAMPLE, curve_bands(0, 1, 2, 4, 9), curve_bands(0, 2, 3, 5, 7, 10)):
            observer = Observer(bands)
            for differences in product((zero(), one(), Quotient(-1, 3)), repeat=len(observer)):
                first, second = pairs_with(differences)
                told = matching_lamp(observer, first, second)
                words = weights_by_the_words(observer.bands, first, second)
                self.assertEqual(None if told is None else fractions(told), words, texts(differences))

    def test_seven_bands(self):
        observer = Observer(curve_bands(0, 1, 3, 4, 6, 7, 9))
        found = 0
        for first, second in zip(some_reflectances(7, 400, 32), some_reflectances(7, 400, 33)):
            told = matching_lamp(observer, first, second)
            words = weights_by_the_words(observer.bands, first, second)
            self.assertEqual(None if told is None else fractions(told), words)
            found += told is not None
        self.assertGreater(found, 100)
        self.assert_weights(observer, *pairs_with(quotients("1 -1 1 -1 1 -1 1")), texts(
            matching_lamp(observer, *pairs_with(quotients("-1 1 -1 1 -1 1 -1")))
        ))

    def test_both_have_the_same_color_and_all_weights_are_positive(self):
        for view in views():
            observer = view.observer
            matched = 0
            rows = zip(some_reflectances(len(view), 120, 34), some_reflectances(len(view), 120, 35))
            for first, second in rows:
                weights = matching_lamp(observer, first, second)
                if weights is None:
                    self.assertIn(crossings(first, second), (0, 1, 2))
                    self.assertNotEqual(first, second)
                    continue
                matched += 1
                self.assertTrue(first == second or crossings(first, second) >= 3)
                self.assertEqual(len(weights), len(view))
                for weight in weights:
                    self.assertIs(type(weight), Quotient)
                    self.assertTrue(zero() < weight)
                self.assertEqual(weighted_color(observer, weights, first), weighted_color(observer, weights, second))
            self.assertGreater(matched, 0)

    def test_great_quotients(self):
        observer = Observer(EXAMPLE)
        first = (Quotient(GREAT, GREAT + 1), Quotient(1, GREAT), one(), HALF)
        second = (Quotient(GREAT - 1, GREAT), Quotient(1, GREAT - 1), Quotient(GREAT + 1, GREAT + 2), one())
        weights = matching_lamp(observer, first, second)
        self.assertEqual(fractions(weights), weights_by_the_words(EXAMPLE, first, second))
        self.assertEqual(weighted_color(observer, weights, first), weighted_color(observer, weights, second))

    def test_what_is_no_reflectance(self):
        observer = Observer(EXAMPLE)
        good = (HALF,) * 4
        for bad in bad_reflectances():
            for first, second in ((bad, good), (good, bad), (bad, bad)):
                with self.subTest(bad), self.assertRaises(BadReflectance):
                    matching_lamp(observer, first, second)

    def test_as_many_values_as_the_observer_has_bands(self):
        for view in views():
            many = len(view)
            for length in (many - 1, many + 1):
                for first, second in ((many, length), (length, many), (length, length)):
                    with self.assertRaises(BadReflectance):
                        matching_lamp(view.observer, (HALF,) * first, (HALF,) * second)


def other_by_the_words(view, reflectance):
    """Point 18 of the document, in fractions."""
    values = fractions(reflectance)
    generators = [fractions(generator) for generator in view.generators]
    for four in combinations(range(len(view)), 4):
        for signs in ((1, -1, 1, -1), (-1, 1, -1, 1)):
            if all(values[band] < 1 if sign > 0 else values[band] > 0 for band, sign in zip(four, signs)):
                slopes = [
                    sign * fraction_det(*(generators[other] for other in four if other != band))
                    for band, sign in zip(four, signs)
                ]
                step = min(
                    (1 - values[band]) / slope if slope > 0 else values[band] / -slope
                    for band, slope in zip(four, slopes)
                )
                changed = list(values)
                for band, slope in zip(four, slopes):
                    changed[band] += step * slope
                return tuple(changed)
    return None


class Others(unittest.TestCase):
    def assert_other(self, view, reflectance, told):
        other = other_match(view, quotients(reflectance))
        self.assertIs(type(other), tuple)
        self.assertEqual(texts(other), told)

    def test_the_example_of_the_document(self):
        self.assert_other(example_view(), "1/2 1/2 1/2 1/2", "2/3 0 1 1/3")

    def test_the_lamp_counts(self):
        self.assert_other(example_view((1, 2, 3, 4)), "1/2 1/2 1/2 1/2", "5/6 0 5/6 5/12")

    def test_up_and_down_or_down_and_up(self):
        view = example_view()
        for reflectance, told in (
            ("1 1/2 1/2 1/2", "5/6 1 0 2/3"), ("1/2 0 1/2 1/2", "1/3 1/2 0 2/3"), ("1/2 1/2 1 1/2", "1/3 1 1/2 2/3"),
            ("1/2 1/2 1/2 0", "1/3 1 0 1/6"), ("1/3 1 0 2/3", "2/3 0 1 1/3"), ("0 1 0 1", "1/3 0 1 2/3"),
            ("1 0 1 0", "2/3 1 0 1/3"), ("2/3 0 1 1/3", "1/3 1 0 2/3"), ("1/2 1/2 1/2 1/30", "8/15 2/5 3/5 0"),
        ):
            with self.subTest(reflectance):
                self.assert_other(view, reflectance, told)

    def test_the_first_four_bands(self):
        view = View(Observer(curve_bands(0, 1, 2, 3, 4)), (1,) * 5)
        # The bands 0 to 3 in the second way come ahead of the bands 0, 1, 2 and 4 in the first one.
        self.assert_other(view, "1/2 1/2 1/2 0 1/2", "1/3 1 0 1/6 1/2")
        # Neither way is possible for the bands 0 to 3.
        self.assert_other(view, "0 1/2 1/2 0 1/2", "3/16 0 7/8 0 7/16")
        for reflectance, told in (
            ("0 1 0 0 1", "3/8 0 3/4 0 7/8"), ("0 1 1 0 1", "1/2 0 1 1 1/2"), ("0 0 1 0 1", "1/8 0 1/4 1 5/8"),
            ("1 0 1 1 0", "5/8 1 1/4 1 1/8"), ("1 0 0 1 0", "1/2 1 0 0 1/2"), ("1 1 0 1 0", "7/8 1 3/4 0 3/8"),
        ):
            self.assert_other(view, reflectance, told)

    def test_no_four_bands(self):
        view = example_view()
        for reflectance in (
            "0 0 0 0", "1 1 1 1", "1 1 0 0", "1 1/2 0 0", "0 1 1 0", "1/2 1 1/3 0", "0 1/2 1/3 0", "1/2 1 1 1/2",
            "1/2 0 0 1/3", "1 1/2 1/2 1", "0 0 1/2 1/2", "1 1 1/2 1/2", "1 0 0 1", "0 0 0 1", "1/2 0 0 0",
            "1/2 1/2 1 1",
        ):
            with self.subTest(reflectance):
                self.assertIsNone(other_match(view, quotients(reflectance)))
                self.assertIsNotNone(band_pattern(quotients(reflectance)))

    def test_all_small_reflectances(self):
        for view in list(views()):
            values = SMALL if len(view) < 7 else (zero(), one())
            for reflectance in product(values, repeat=len(view)):
                self.check(view, reflectance)

    def test_reflectances_that_are_nearly_patterns(self):
        near_zero, near_one = Quotient(1, GREAT), Quotient(GREAT - 1, GREAT)
        for view in (example_view((3, 1, 2, 5)), View(Observer(curve_bands(1, 3, 4, 5, 7)), (5, 1, 3, 2, 9))):
            for reflectance in product((zero(), near_zero, near_one, one()), repeat=len(view)):
                self.check(view, reflectance)

    def test_great_quotients(self):
        for view in views():
            for reflectance in some_reflectances(len(view), 60, 36):
                self.check(view, reflectance)

    def check(self, view, reflectance):
        other = other_match(view, reflectance)
        words = other_by_the_words(view, reflectance)
        self.assertEqual(other is None, band_pattern(reflectance) is not None, texts(reflectance))
        self.assertEqual(None if other is None else fractions(other), words, texts(reflectance))
        if other is not None:
            self.assertNotEqual(other, reflectance)
            self.assertTrue(is_match(view, reflectance, other))
            self.assertEqual(color_of(view, reflectance), color_of(view, other))

    def test_it_goes_as_far_as_it_can(self):
        for view in views():
            for reflectance in some_reflectances(len(view), 40, 37):
                other = other_match(view, reflectance)
                if other is not None:
                    moved = [new for new, old in zip(other, reflectance) if new != old]
                    self.assertEqual(len(moved), 4)
                    self.assertTrue(zero() in moved or one() in moved)

    def test_what_is_no_reflectance(self):
        view = example_view()
        for bad in bad_reflectances():
            with self.subTest(bad), self.assertRaises(BadReflectance):
                other_match(view, bad)

    def test_as_many_values_as_the_view_has_bands(self):
        for view in views():
            for length in (len(view) - 1, len(view) + 1):
                with self.assertRaises(BadReflectance):
                    other_match(view, (HALF,) * length)


class Unchanged(unittest.TestCase):
    def test_no_argument_changes(self):
        view = example_view((1, 2, 3, 4))
        observer = view.observer
        first, second = quotients("1 0 1 1/3"), quotients("1/7 1 0 1")
        before = [texts(part) for part in (first, second, *observer.vectors, *view.generators)]
        for _ in range(2):
            self.assertIsNotNone(matching_lamp(observer, first, second))
            self.assertIsNotNone(other_match(view, second))
            self.assertEqual([texts(part) for part in (first, second, *observer.vectors, *view.generators)], before)
        wrong = list(first)
        with self.assertRaises(BadReflectance):
            matching_lamp(observer, first, wrong)
        with self.assertRaises(BadReflectance):
            other_match(view, wrong)
        self.assertEqual((texts(wrong), observer.bands, view.lamp), ("1 0 1 1/3", EXAMPLE, (1, 2, 3, 4)))


if __name__ == "__main__":
    unittest.main()
