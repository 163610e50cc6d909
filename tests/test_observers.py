import unittest
from fractions import Fraction
from itertools import combinations, permutations

from colormatch.errors import BadLamp, BadObserver, BadReflectance, Irregular
from colormatch.observers import Observer, View, color_of, is_match
from colormatch.quotients import Quotient, one, whole, zero
from samples import (
    EXAMPLE, HALF, SQUARE, bad_reflectances, curve_bands, example_view, fraction_det, quotients, texts, with_value,
)

NO_INTEGERS = (1.0, "1", None, True, False, whole(1), (1,), [1], Fraction(1), b"1")


def first_irregular(bands):
    """The first triple whose determinant is not positive, or None."""
    for triple in combinations(range(len(bands)), 3):
        if fraction_det(*(bands[at] for at in triple)) <= 0:
            return triple
    return None


def turned(row, steps):
    return row[steps:] + row[:steps]


class Observers(unittest.TestCase):
    def test_attributes(self):
        observer = Observer(EXAMPLE)
        self.assertIs(observer.bands, EXAMPLE)
        self.assertIs(type(observer.vectors), tuple)
        self.assertEqual([texts(vector) for vector in observer.vectors], ["1 0 0", "1 1 1", "1 2 4", "1 3 9"])
        for vector in observer.vectors:
            self.assertIs(type(vector), tuple)
            self.assertEqual([type(part) for part in vector], [Quotient] * 3)

    def test_class_values(self):
        self.assertEqual((Observer.LEAST_BANDS, Observer.MOST_BANDS), (4, 7))
        observer = Observer(EXAMPLE)
        self.assertEqual((observer.LEAST_BANDS, observer.MOST_BANDS), (4, 7))

    def test_numbers_of_bands(self):
        for many in range(11):
            bands = curve_bands(*range(many))
            with self.subTest(many):
                if 4 <= many <= 7:
                    observer = Observer(bands)
                    self.assertEqual(len(observer), many)
                    self.assertEqual(len(observer.vectors), many)
                    self.assertIs(observer.bands, bands)
                else:
                    with self.assertRaises(BadObserver):
                        Observer(bands)

    def test_values_from_0_to_100(self):
        self.assertEqual(Observer(curve_bands(0, 1, 2, 10)).bands[3], (1, 10, 100))
        # Turned bands and turned parts keep all determinants positive, and
        # bring both 0 and 100 to each part of each band.
        for first in range(4):
            for turn in range(3):
                bands = tuple(turned(band, turn) for band in turned(SQUARE, first))
                with self.subTest(bands):
                    self.assertEqual(Observer(bands).bands, bands)

    def test_values_beyond(self):
        for band in range(4):
            for part in range(3):
                for value in (-1, 101, -(10 ** 24), 10 ** 24):
                    bands = with_value(EXAMPLE, band, with_value(EXAMPLE[band], part, value))
                    with self.subTest(bands), self.assertRaises(BadObserver):
                        Observer(bands)

    def test_bands_of_other_kinds(self):
        for bands in (list(EXAMPLE), None, 4, "abcd", {0: 1}, EXAMPLE[0], b"abcd", iter(EXAMPLE), set(EXAMPLE)):
            with self.subTest(bands), self.assertRaises(BadObserver):
                Observer(bands)
        for at in range(4):
            for band in ([1, 2, 3], "123", b"123", 5, None, (), (1,), (1, 2), (1, 2, 4, 8), {1: 1, 2: 2, 3: 3}):
                with self.subTest(band), self.assertRaises(BadObserver):
                    Observer(with_value(EXAMPLE, at, band))

    def test_values_that_are_no_integers(self):
        for band in range(4):
            for part in range(3):
                for value in NO_INTEGERS:
                    bands = with_value(EXAMPLE, band, with_value(EXAMPLE[band], part, value))
                    with self.subTest(bands), self.assertRaises(BadObserver):
                        Observer(bands)


class Irregulars(unittest.TestCase):
    def assert_irregular(self, bands, triple):
        with self.assertRaises(Irregular) as caught:
            Observer(bands)
        self.assertEqual(caught.exception.triple, triple)
        self.assertIs(type(caught.exception.triple), tuple)

    def test_the_example_of_the_interface(self):
        self.assert_irregular(((1, 0, 0), (1, 1, 1), (1, 2, 4), (1, 0, 0)), (0, 1, 3))

    def test_two_bands_exchanged(self):
        for many in (4, 5, 6, 7):
            for i, j in combinations(range(many), 2):
                bands = list(curve_bands(*range(many)))
                bands[i], bands[j] = bands[j], bands[i]
                bands = tuple(bands)
                with self.subTest(many=many, exchanged=(i, j)):
                    self.assertIsNotNone(first_irregular(bands))
                    self.assert_irregular(bands, first_irregular(bands))
        self.assert_irregular(curve_bands(0, 1, 2, 4, 3), (0, 3, 4))
        self.assert_irregular(curve_bands(0, 2, 1, 3), (0, 1, 2))

    def test_a_band_twice(self):
        for i, j in combinations(range(5), 2):
            bands = curve_bands(*range(5))
            bands = with_value(bands, j, bands[i])
            with self.subTest((i, j)):
                self.assert_irregular(bands, first_irregular(bands))
        self.assert_irregular(curve_bands(0, 1, 2, 3, 3), (0, 3, 4))

    def test_all_orders_of_five_bands(self):
        for places in permutations((0, 1, 3, 4, 6)):
            bands = curve_bands(*places)
            with self.subTest(places):
                if first_irregular(bands) is None:
                    self.assertEqual(len(Observer(bands)), 5)
                else:
                    self.assert_irregular(bands, first_irregular(bands))

    def test_a_determinant_of_0_alone(self):
        # The bands 1, 2 and 3 lie in one plane; all other triples are positive.
        bands = ((1, 0, 0), (1, 1, 1), (1, 2, 4), (1, 3, 7))
        dets = [fraction_det(*(bands[at] for at in triple)) for triple in combinations(range(4), 3)]
        self.assertEqual([value > 0 for value in dets], [True, True, True, False])
        self.assertEqual(dets[3], 0)
        self.assert_irregular(bands, (1, 2, 3))

    def test_a_black_band(self):
        self.assert_irregular(((1, 0, 0), (1, 1, 1), (1, 2, 4), (0, 0, 0)), (0, 1, 3))

    def test_the_first_triple_in_lexicographic_order(self):
        # The triples (0, 1, 4), (0, 2, 3) and (1, 2, 3) all fail, the last two
        # of them with the lesser greatest band.
        bands = curve_bands(0, 1, 3, 2, 1)
        self.assertLessEqual(fraction_det(*(bands[at] for at in (0, 1, 4))), 0)
        self.assertLess(fraction_det(*(bands[at] for at in (0, 2, 3))), 0)
        self.assert_irregular(bands, (0, 1, 4))

    def test_bad_observer_comes_ahead(self):
        twice = ((1, 0, 0), (1, 1, 1), (1, 0, 0), (1, 1, 1))
        self.assert_irregular(twice, (0, 1, 2))
        for bands in (twice[:3], twice + twice, twice[:3] + ((1, 1, 101),), twice[:3] + ((1, 1),), list(twice)):
            with self.subTest(bands), self.assertRaises(BadObserver):
                Observer(bands)


class Views(unittest.TestCase):
    def test_attributes(self):
        observer, lamp = Observer(EXAMPLE), (1, 2, 100, 7)
        view = View(observer, lamp)
        self.assertIs(view.observer, observer)
        self.assertIs(view.lamp, lamp)
        self.assertEqual(len(view), 4)
        self.assertIs(type(view.generators), tuple)
        self.assertEqual(
            [texts(vector) for vector in view.generators], ["1 0 0", "2 2 2", "100 200 400", "7 21 63"]
        )

    def test_length_and_generators_of_all_sizes(self):
        for many in (4, 5, 6, 7):
            bands = curve_bands(*range(many))
            lamp = tuple(range(1, many + 1))
            view = View(Observer(bands), lamp)
            self.assertEqual(len(view), many)
            for generator, band, light in zip(view.generators, bands, lamp, strict=True):
                self.assertEqual(generator, tuple(whole(light * part) for part in band))

    def test_values_from_1_to_100(self):
        observer = Observer(EXAMPLE)
        for at in range(4):
            for value in (1, 100):
                lamp = with_value((5, 5, 5, 5), at, value)
                self.assertEqual(View(observer, lamp).lamp, lamp)
            for value in (0, 101, -1, -(10 ** 24), 10 ** 24):
                with self.subTest(at=at, value=value), self.assertRaises(BadLamp):
                    View(observer, with_value((5, 5, 5, 5), at, value))

    def test_lengths(self):
        for many in (4, 5, 6, 7):
            observer = Observer(curve_bands(*range(many)))
            for length in (0, 1, many - 1, many + 1, many + many):
                with self.subTest(many=many, length=length), self.assertRaises(BadLamp):
                    View(observer, (1,) * length)

    def test_lamps_of_other_kinds(self):
        observer = Observer(EXAMPLE)
        for lamp in ([1, 1, 1, 1], None, 4, "1111", b"1111", {1: 1, 2: 2, 3: 3, 4: 4}, ((1, 1, 1, 1),)):
            with self.subTest(lamp), self.assertRaises(BadLamp):
                View(observer, lamp)
        for at in range(4):
            for value in NO_INTEGERS:
                with self.subTest(at=at, value=value), self.assertRaises(BadLamp):
                    View(observer, with_value((1, 1, 1, 1), at, value))


class Colors(unittest.TestCase):
    def test_the_example_of_the_interface(self):
        view = View(Observer(((1, 0, 0), (1, 1, 1), (1, 2, 4), (1, 3, 9))), (1, 1, 1, 1))
        self.assertEqual([str(part) for part in color_of(view, (Quotient(1, 2),) * 4)], ["2", "3", "7"])

    def test_colors(self):
        view = example_view((1, 2, 3, 4))
        for reflectance, color in (
            ("0 0 0 0", "0 0 0"),
            ("1 0 0 0", "1 0 0"),
            ("0 1 0 0", "2 2 2"),
            ("0 0 1 0", "3 6 12"),
            ("0 0 0 1", "4 12 36"),
            ("1 1 1 1", "10 20 50"),
            ("1/2 1/3 1/4 1/5", "163/60 137/30 163/15"),
        ):
            told = color_of(view, quotients(reflectance))
            self.assertEqual(texts(told), color)
            self.assertIs(type(told), tuple)

    def test_seven_bands(self):
        view = View(Observer(curve_bands(*range(7))), (7, 6, 5, 4, 3, 2, 1))
        self.assertEqual(texts(color_of(view, (HALF,) * 7)), "14 28 98")

    def test_matches(self):
        # Both are of the family of reflectances in point 25 of the document.
        view = example_view()
        half, other = (HALF,) * 4, quotients("1/3 1 0 2/3")
        self.assertIs(is_match(view, half, half), True)
        self.assertIs(is_match(view, half, other), True)
        self.assertIs(is_match(view, other, half), True)
        self.assertIs(is_match(view, half, quotients("1/3 1 0 1")), False)
        self.assertIs(is_match(example_view((1, 1, 1, 2)), half, other), False)

    def test_a_match_needs_all_three_parts(self):
        # Band 0 lies on one axis: with its value, one part of the color changes.
        for turn, colors in enumerate((("2 3 7", "3/2 3 7"), ("3 7 2", "3 7 3/2"), ("7 2 3", "7 3/2 3"))):
            view = View(Observer(tuple(turned(band, turn) for band in EXAMPLE)), (1, 1, 1, 1))
            first, second = (HALF,) * 4, quotients("0 1/2 1/2 1/2")
            self.assertEqual((texts(color_of(view, first)), texts(color_of(view, second))), colors)
            self.assertIs(is_match(view, first, second), False)


class Reflectances(unittest.TestCase):
    def test_values_from_0_to_1(self):
        view = example_view()
        for at in range(4):
            for value in (zero(), one(), Quotient(1, 10 ** 24), Quotient(10 ** 24 - 1, 10 ** 24)):
                color_of(view, with_value((HALF,) * 4, at, value))

    def test_what_is_no_reflectance(self):
        view = example_view()
        good = (HALF,) * 4
        for bad in bad_reflectances():
            with self.subTest(bad):
                with self.assertRaises(BadReflectance):
                    color_of(view, bad)
                with self.assertRaises(BadReflectance):
                    is_match(view, bad, good)
                with self.assertRaises(BadReflectance):
                    is_match(view, good, bad)
                with self.assertRaises(BadReflectance):
                    is_match(view, bad, bad)

    def test_as_many_values_as_the_view_has_bands(self):
        for many in (4, 5, 6, 7):
            view = View(Observer(curve_bands(*range(many))), (1,) * many)
            color_of(view, (HALF,) * many)
            for length in (many - 1, many + 1):
                with self.subTest(many=many, length=length), self.assertRaises(BadReflectance):
                    color_of(view, (HALF,) * length)


class Unchanged(unittest.TestCase):
    def state(self, view):
        return (
            view.observer.bands, [texts(vector) for vector in view.observer.vectors], len(view.observer),
            view.lamp, [texts(vector) for vector in view.generators], len(view),
        )

    def test_no_argument_changes(self):
        view = example_view((1, 2, 3, 4))
        first, second = quotients("1/2 1/3 1/4 1/5"), quotients("1 0 1 0")
        before = self.state(view)
        color_of(view, first)
        is_match(view, first, second)
        View(view.observer, (9, 9, 9, 9))
        self.assertEqual(self.state(view), before)
        self.assertEqual((texts(first), texts(second)), ("1/2 1/3 1/4 1/5", "1 0 1 0"))

    def test_a_call_that_raises_an_error_changes_nothing(self):
        view = example_view((1, 2, 3, 4))
        before = self.state(view)
        bands, lamp, reflectance = [[1, 2, 3]], [1, 2, 3, 4], [HALF] * 4
        with self.assertRaises(BadObserver):
            Observer(bands)
        with self.assertRaises(BadLamp):
            View(view.observer, lamp)
        with self.assertRaises(BadReflectance):
            color_of(view, reflectance)
        with self.assertRaises(BadReflectance):
            is_match(view, (HALF,) * 4, reflectance)
        self.assertEqual(self.state(view), before)
        self.assertEqual((bands, lamp, texts(reflectance)), ([[1, 2, 3]], [1, 2, 3, 4], "1/2 1/2 1/2 1/2"))


if __name__ == "__main__":
    unittest.main()
