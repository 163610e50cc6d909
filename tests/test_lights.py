import unittest
from fractions import Fraction

from colormatch.errors import Dependent, LengthsDiffer, WhiteOutside
from colormatch.lights import chromaticity, decompose, mix, mixture
from colormatch.observers import Observer
from colormatch.quotients import Quotient, one, whole, zero
from colormatch.vectors import added, black, det, scaled, sum_of
from samples import (
    EXAMPLE, HALF, SQUARE, curve_bands, fraction_det, fraction_sum, fractions, from_fractions, quotients, some_colors,
    texts,
)

GREAT = 10 ** 24
UNITS = tuple(quotients(row) for row in ("1 0 0", "0 1 0", "0 0 1"))


def observers():
    yield Observer(EXAMPLE)
    yield Observer(SQUARE)
    yield Observer(curve_bands(0, 1, 2, 4, 9))
    yield Observer(curve_bands(0, 2, 3, 5, 7, 10))
    yield Observer(curve_bands(0, 1, 3, 4, 6, 7, 9))


def edges_of(observer):
    count = len(observer)
    return [(band, (band + 1) % count) for band in range(count)]


def negative(vector):
    return tuple(-part for part in vector)


class Chromaticities(unittest.TestCase):
    def test_values(self):
        for color, told in (
            ("1 1 1", "1/3 1/3"), ("1 0 0", "1 0"), ("0 1 0", "0 1"), ("0 0 1", "0 0"), ("2 3 7", "1/6 1/4"),
            ("1/2 1/3 1/6", "1/2 1/3"), ("-1 2 1", "-1/2 1"), ("-1 -2 -5", "1/8 1/4"), ("1 1 -1", "1 1"),
            ("0 0 -3", "0 0"), ("2/7 -3/7 5/7", "1/2 -3/4"),
        ):
            with self.subTest(color):
                pair = chromaticity(quotients(color))
                self.assertIs(type(pair), tuple)
                self.assertEqual(texts(pair), told)

    def test_none_for_a_sum_of_0(self):
        for color in ("0 0 0", "1 -1 0", "0 1 -1", "-1 0 1", "1/3 1/3 -2/3", f"{GREAT} -{GREAT + 1} 1"):
            with self.subTest(color):
                self.assertIsNone(chromaticity(quotients(color)))

    def test_a_sum_near_0(self):
        self.assertEqual(texts(chromaticity(quotients(f"1 -1 1/{GREAT}"))), f"{GREAT} -{GREAT}")

    def test_all_multiples_have_the_same_one(self):
        for color in some_colors(60, 11):
            x, y, z = fractions(color)
            if x + y + z == 0:
                self.assertIsNone(chromaticity(color))
                continue
            self.assertEqual(fractions(chromaticity(color)), (x / (x + y + z), y / (x + y + z)))
            for factor in (Quotient(2, 3), Quotient(-GREAT, 7)):
                self.assertEqual(chromaticity(scaled(factor, color)), chromaticity(color))


class Mixing(unittest.TestCase):
    def test_sums(self):
        colors = tuple(quotients(row) for row in ("1 0 2", "1/2 1/3 0", "-1 1 1"))
        for amounts, told in (
            ("1 1 1", "1/2 4/3 3"), ("0 0 0", "0 0 0"), ("2 0 0", "2 0 4"), ("0 6 0", "3 2 0"), ("0 0 -1", "1 -1 -1"),
            ("1/2 1/5 -2/3", "19/15 -3/5 1/3"), (f"{GREAT} 0 {GREAT}", f"0 {GREAT} {3 * GREAT}"),
        ):
            with self.subTest(amounts):
                color = mix(colors, quotients(amounts))
                self.assertIs(type(color), tuple)
                self.assertEqual(texts(color), told)

    def test_none_is_black(self):
        for kind in (list, tuple):
            self.assertEqual(mix(kind(), kind()), black())

    def test_lists_and_tuples(self):
        colors = [quotients("1 2 3"), quotients("0 1 0")]
        amounts = [HALF, one()]
        for kind in (list, tuple):
            for other in (list, tuple):
                self.assertEqual(texts(mix(kind(colors), other(amounts))), "1/2 2 3/2")

    def test_another_number_of_amounts(self):
        for many in range(5):
            for amounts in range(5):
                colors = (quotients("1 2 3"),) * many
                if many == amounts:
                    self.assertEqual(mix(colors, (one(),) * amounts), scaled(whole(many), quotients("1 2 3")))
                else:
                    with self.subTest(colors=many, amounts=amounts), self.assertRaises(LengthsDiffer):
                        mix(colors, (one(),) * amounts)

    def test_against_fractions(self):
        colors = list(some_colors(40, 12))
        for start in range(0, 36, 3):
            some = colors[start:start + 4]
            amounts = sum(some[:2], ())[:4]
            self.assertEqual(
                fractions(mix(some, amounts)), fraction_sum([fractions(color) for color in some], fractions(amounts))
            )


class Mixtures(unittest.TestCase):
    def test_values(self):
        others = tuple(quotients(row) for row in ("1 0 0", "1 1 0", "1 1 1"))
        left = (UNITS[1], UNITS[0], UNITS[2])
        for primaries, color, told in (
            (UNITS, "2 -3 1/7", "2 -3 1/7"), (UNITS, "0 0 0", "0 0 0"), (others, "3 2 1", "1 1 1"),
            (others, "1 2 3", "-1 -1 3"), (others, "1/2 1/2 0", "0 1/2 0"), (others, "0 0 0", "0 0 0"),
            (left, "5 6 7", "6 5 7"),
        ):
            with self.subTest(color):
                amounts = mixture(primaries, quotients(color))
                self.assertIs(type(amounts), tuple)
                self.assertEqual(texts(amounts), told)

    def test_the_primaries_themselves(self):
        primaries = tuple(quotients(row) for row in ("2 1 0", "-1 3 1/2", "0 1 5"))
        for at in range(3):
            self.assertEqual(mixture(primaries, primaries[at]), UNITS[at])
            factor = Quotient(-3, 7)
            self.assertEqual(mixture(primaries, scaled(factor, primaries[at])), scaled(factor, UNITS[at]))

    def test_dependent_primaries(self):
        a, b = quotients("1 2 3"), quotients("0 1 5")
        for primaries in (
            (a, a, b), (a, b, a), (b, a, a), (a, b, black()), (black(), a, b), (a, black(), b), (a, b, added(a, b)),
            (a, b, scaled(Quotient(-2, 3), b)), (black(), black(), black()), (a, scaled(Quotient(1, GREAT), a), b),
        ):
            for color in (a, b, black(), quotients("1 0 0")):
                with self.subTest(texts(sum(primaries, ()))), self.assertRaises(Dependent):
                    mixture(primaries, color)

    def test_nearly_dependent_primaries(self):
        primaries = (UNITS[0], UNITS[1], quotients(f"1 1 1/{GREAT}"))
        self.assertEqual(texts(mixture(primaries, UNITS[2])), f"-{GREAT} -{GREAT} {GREAT}")

    def test_they_mix_to_the_color_again(self):
        colors = list(some_colors(120, 13))
        solved = 0
        for at in range(0, 120, 4):
            primaries, color = tuple(colors[at:at + 3]), colors[at + 3]
            if fraction_det(*(fractions(primary) for primary in primaries)) == 0:
                with self.assertRaises(Dependent):
                    mixture(primaries, color)
                continue
            solved += 1
            amounts = mixture(primaries, color)
            self.assertEqual(len(amounts), 3)
            self.assertEqual(mix(primaries, amounts), color)
        self.assertGreater(solved, 20)


def parts_by_the_words(observer, white, color):
    """The first edge with amounts, none negative, that add up to the color; by Cramer's rule in fractions."""
    white, color = fractions(white), fractions(color)
    for i, j in edges_of(observer):
        rows = [white, observer.bands[i], observer.bands[j]]
        bottom = fraction_det(*rows)
        tops = [fraction_det(*(color if at == k else rows[k] for k in range(3))) for at in range(3)]
        amounts = [top / bottom for top in tops]
        assert fraction_sum(rows, amounts) == color
        if all(amount >= 0 for amount in amounts):
            return (amounts[0], (i, j), tuple(amounts[1:]))
    return None


def plain(parts):
    if parts is None:
        return None
    amount, edge, amounts = parts
    return (fractions((amount,))[0], edge, fractions(amounts))


class Decomposing(unittest.TestCase):
    def assert_parts(self, observer, white, color, amount, edge, amounts):
        parts = decompose(observer, white, color)
        self.assertIs(type(parts), tuple)
        self.assertEqual([type(part) for part in parts], [Quotient, tuple, tuple])
        self.assertEqual((str(parts[0]), parts[1], texts(parts[2])), (amount, edge, amounts))

    def test_values(self):
        observer, white = Observer(EXAMPLE), quotients("4 6 14")
        for color, amount, edge, amounts in (
            ("4 6 14", "1", (0, 1), "0 0"), ("2 3 7", "1/2", (0, 1), "0 0"), ("0 0 0", "0", (0, 1), "0 0"),
            ("1 0 0", "0", (0, 1), "1 0"), ("1 1 1", "0", (0, 1), "0 1"), ("1 2 4", "0", (1, 2), "0 1"),
            ("1 3 9", "0", (2, 3), "0 1"), ("2 1 1", "0", (0, 1), "1 1"), ("2 3 5", "0", (1, 2), "1 1"),
            ("2 5 13", "0", (2, 3), "1 1"), ("2 3 9", "0", (3, 0), "1 1"), ("5 3 9", "0", (3, 0), "1 4"),
            ("6 7 15", "1", (0, 1), "1 1"), ("6 9 19", "1", (1, 2), "1 1"), ("6 11 27", "1", (2, 3), "1 1"),
            ("7 9 23", "1", (3, 0), "1 2"), ("9/2 6 14", "1", (0, 1), "1/2 0"), ("5 9 23", "1", (2, 3), "0 1"),
        ):
            with self.subTest(color):
                self.assert_parts(observer, white, quotients(color), amount, edge, amounts)

    def test_colors_that_no_edge_has(self):
        observer, white = Observer(EXAMPLE), quotients("4 6 14")
        for color in ("-4 -6 -14", "-1 0 0", "0 1 0", "0 0 1", "1 -1 0", "1 1 0", "1 0 1", "1 3 10", "-1 -1 -1"):
            with self.subTest(color):
                self.assertIsNone(parts_by_the_words(observer, white, quotients(color)))
                self.assertIsNone(decompose(observer, white, quotients(color)))

    def test_a_band_belongs_to_the_first_of_its_edges(self):
        for observer in observers():
            white = sum_of(observer.vectors)
            for band, vector in enumerate(observer.vectors):
                edge = (band - 1, band) if band > 0 else (0, 1)
                amounts = "0 1" if band > 0 else "1 0"
                self.assert_parts(observer, white, vector, "0", edge, amounts)
                # The same on the line from the white to the band.
                self.assert_parts(observer, white, added(vector, scaled(HALF, white)), "1/2", edge, amounts)

    def test_colors_on_edges_and_within_them(self):
        for observer in observers():
            white = sum_of(observer.vectors)
            for i, j in edges_of(observer):
                on_edge = added(scaled(Quotient(2, GREAT), observer.vectors[i]), scaled(whole(3), observer.vectors[j]))
                self.assert_parts(observer, white, on_edge, "0", (i, j), texts((Quotient(2, GREAT), whole(3))))
                within = added(on_edge, scaled(Quotient(5, 7), white))
                self.assert_parts(observer, white, within, "5/7", (i, j), texts((Quotient(2, GREAT), whole(3))))
                beyond = added(on_edge, scaled(Quotient(-1, GREAT ** 2), white))
                self.assertIsNone(decompose(observer, white, beyond))

    def test_black_and_the_white_itself(self):
        for observer in observers():
            white = scaled(Quotient(GREAT, GREAT + 1), sum_of(observer.vectors))
            self.assert_parts(observer, white, white, "1", (0, 1), "0 0")
            self.assert_parts(observer, white, black(), "0", (0, 1), "0 0")
            self.assertIsNone(decompose(observer, white, negative(white)))

    def test_against_the_words(self):
        found = 0
        for observer in observers():
            vectors = observer.vectors
            four, three = mix(vectors[:4], quotients("1 1/5 3 1/2")), mix(vectors[:3], quotients("1 2 3"))
            for white in (sum_of(vectors), four, three):
                for color in some_colors(60, len(vectors)):
                    for candidate in (color, mix(vectors[:3], [part * part for part in color])):
                        told = plain(decompose(observer, white, candidate))
                        self.assertEqual(told, parts_by_the_words(observer, white, candidate))
                        found += told is not None
        self.assertGreater(found, 300)

    def test_the_parts_mix_to_the_color_again(self):
        for observer in observers():
            white = sum_of(observer.vectors)
            for color in some_colors(40, 14):
                light = mix(observer.vectors[:3], [part * part for part in color])
                amount, (i, j), amounts = decompose(observer, white, light)
                self.assertEqual(
                    mix((white, observer.vectors[i], observer.vectors[j]), (amount,) + amounts), light
                )
                for part in (amount,) + amounts:
                    self.assertFalse(part < zero())


class Whites(unittest.TestCase):
    def assert_outside(self, observer, white):
        for color in (black(), white, observer.vectors[0], quotients("1 2 3")):
            with self.assertRaises(WhiteOutside):
                decompose(observer, white, color)

    def test_on_an_edge(self):
        for observer in observers():
            vectors = observer.vectors
            for i, j in edges_of(observer):
                self.assert_outside(observer, added(vectors[i], vectors[j]))
                self.assert_outside(observer, mix((vectors[i], vectors[j]), (Quotient(1, GREAT), one())))
                self.assert_outside(observer, vectors[i])
                self.assert_outside(observer, mix((vectors[i], vectors[j]), (whole(2), whole(-1))))

    def test_beyond_one_edge(self):
        for observer in observers():
            vectors = observer.vectors
            for i, j in edges_of(observer):
                inside = sum_of(vectors)
                near = mix((vectors[i], vectors[j], inside), (one(), one(), Quotient(1, GREAT)))
                self.assertEqual(str(decompose(observer, near, near)[0]), "1")
                beyond = mix((vectors[i], vectors[j], inside), (one(), one(), Quotient(-1, GREAT)))
                sides = [zero() < det(vectors[a], vectors[b], beyond) for a, b in edges_of(observer)]
                self.assertEqual(sides.count(False), 1)
                self.assert_outside(observer, beyond)

    def test_black_and_far_outside(self):
        for observer in observers():
            self.assert_outside(observer, black())
            self.assert_outside(observer, negative(sum_of(observer.vectors)))
            self.assert_outside(observer, quotients("0 0 -1"))
            self.assert_outside(observer, quotients("-1 -1 -1"))

    def test_inside(self):
        for observer in observers():
            for white in some_colors(60, 15):
                bands, light = observer.bands, fractions(white)
                sides = [fraction_det(bands[i], bands[j], light) for i, j in edges_of(observer)]
                if all(side > 0 for side in sides):
                    self.assertEqual(plain(decompose(observer, white, white)), (1, (0, 1), (0, 0)))
                else:
                    self.assert_outside(observer, white)


class Unchanged(unittest.TestCase):
    def test_no_argument_changes(self):
        observer, white, color = Observer(EXAMPLE), quotients("4 6 14"), quotients("1 2 5")
        colors, amounts = [color, white], list(quotients("1/2 -3"))
        before = [texts(color), texts(white), texts(amounts), [texts(vector) for vector in observer.vectors]]
        chromaticity(color)
        mix(colors, amounts)
        mixture(UNITS, color)
        decompose(observer, white, color)
        with self.assertRaises(LengthsDiffer):
            mix(colors, amounts[:1])
        with self.assertRaises(Dependent):
            mixture((color, color, white), color)
        with self.assertRaises(WhiteOutside):
            decompose(observer, negative(white), color)
        self.assertEqual(
            [texts(color), texts(white), texts(amounts), [texts(vector) for vector in observer.vectors]], before
        )
        self.assertIs(colors[0], color)
        self.assertIs(colors[1], white)
        self.assertEqual((len(colors), observer.bands), (2, EXAMPLE))

    def test_arguments_given_as_fractions_of_great_numbers(self):
        color = from_fractions((Fraction(GREAT, GREAT - 1), Fraction(-1, GREAT), Fraction(3)))
        self.assertEqual(mixture(UNITS, color), color)
        self.assertEqual(mix(UNITS, color), color)


if __name__ == "__main__":
    unittest.main()
