import unittest
from fractions import Fraction

from colormatch.palettes import diffuse, nearest_color
from colormatch.quotients import Quotient
from colormatch.vectors import added, black, sum_of, taken
from samples import fractions, quotients, some_colors, texts

GREAT = 10 ** 24
NOUGHT = quotients("0 0 0")
FULL = quotients("1 1 1")


def colors_of(*rows):
    return tuple(quotients(row) for row in rows)


def distance(first, second):
    return sum((a - b) ** 2 for a, b in zip(fractions(first), fractions(second)))


def nearest_by_the_words(palette, color):
    distances = [distance(candidate, color) for candidate in palette]
    return distances.index(min(distances))


def diffused_by_the_words(palette, colors):
    error = (Fraction(0),) * 3
    indices = []
    for color in colors:
        wanted = tuple(part + rest for part, rest in zip(fractions(color), error))
        distances = [sum((a - b) ** 2 for a, b in zip(fractions(candidate), wanted)) for candidate in palette]
        index = distances.index(min(distances))
        indices.append(index)
        error = tuple(part - other for part, other in zip(wanted, fractions(palette[index])))
    return tuple(indices), error


class Nearest(unittest.TestCase):
    def test_values(self):
        palette = colors_of("0 0 0", "1 0 0", "0 1 0", "0 0 1", "1 1 1")
        for color, told in (
            ("0 0 0", 0), ("1 0 0", 1), ("0 1 0", 2), ("0 0 1", 3), ("1 1 1", 4), ("2 0 0", 1), ("0 3 0", 2),
            ("0 0 9", 3), ("-5 -5 -5", 0), ("3/5 0 0", 1), ("0 2/3 0", 2), ("1/5 1/5 4/5", 3), ("1 1 2/3", 4),
            ("2/5 2/5 2/5", 0), ("9 9 9", 4), ("-1 0 3", 3), ("2/3 2/3 2/3", 4),
        ):
            with self.subTest(color):
                index = nearest_color(palette, quotients(color))
                self.assertEqual(index, told)
                self.assertIs(type(index), int)

    def test_one_color(self):
        for color in some_colors(10, 21):
            self.assertEqual(nearest_color((NOUGHT,), color), 0)
            self.assertEqual(nearest_color((color,), color), 0)

    def test_of_several_the_first_one(self):
        for palette, color, told in (
            (("0 0 0", "1 1 1"), "1/2 1/2 1/2", 0), (("1 1 1", "0 0 0"), "1/2 1/2 1/2", 0),
            (("1 0 0", "1 0 0"), "1 0 0", 0), (("0 0 0", "1 0 0", "1 0 0"), "1 0 0", 1),
            (("5 5 5", "1 0 0", "0 1 0", "0 0 1"), "0 0 0", 1), (("5 5 5", "0 0 -1", "0 1 0", "-1 0 0"), "0 0 0", 1),
            (("3 4 0", "0 0 5", "0 0 0", "5 0 0"), "0 0 0", 2), (("3 4 0", "0 0 5", "5 0 0"), "0 0 0", 0),
            (("9 9 9", "0 0 5", "3 4 0"), "0 0 0", 1), (("2 0 0", "0 1 1", "1 1 0"), "0 0 0", 1),
        ):
            with self.subTest(palette=palette, color=color):
                self.assertEqual(nearest_color(colors_of(*palette), quotients(color)), told)

    def test_squares_not_sizes(self):
        # The sum of the sizes is less for the second color, the sum of the squares is not.
        self.assertEqual(nearest_color(colors_of("1 1 1", "2 0 0"), NOUGHT), 0)
        self.assertEqual(nearest_color(colors_of("2 0 0", "1 1 1"), NOUGHT), 1)
        self.assertEqual(nearest_color(colors_of("-2 0 0", "1 1 1"), NOUGHT), 1)

    def test_each_part_counts(self):
        for at in range(3):
            near, far = [Quotient(1, 3)] * 3, [Quotient(1, 3)] * 3
            near[at], far[at] = Quotient(1, 2), Quotient(-2, 3)
            self.assertEqual(nearest_color((tuple(far), tuple(near)), (Quotient(1, 3),) * 3), 1)

    def test_distances_that_differ_little(self):
        near, far = (Quotient(GREAT + 1, GREAT),) * 3, (Quotient(GREAT + 2, GREAT),) * 3
        self.assertEqual(nearest_color((far, near), FULL), 1)
        self.assertEqual(nearest_color((near, far), FULL), 0)
        self.assertEqual(nearest_color((FULL, NOUGHT), (Quotient(GREAT - 1, 2 * GREAT),) * 3), 1)
        self.assertEqual(nearest_color((NOUGHT, FULL), (Quotient(GREAT + 1, 2 * GREAT),) * 3), 1)

    def test_against_the_words(self):
        colors = list(some_colors(150, 22))
        for many in (1, 2, 3, 7, 30):
            palette = tuple(colors[:many])
            for color in colors[30:]:
                self.assertEqual(nearest_color(palette, color), nearest_by_the_words(palette, color))


class Diffusing(unittest.TestCase):
    def assert_row(self, palette, colors, indices, error):
        told = diffuse(colors_of(*palette), colors_of(*colors))
        self.assertIs(type(told), tuple)
        self.assertEqual([type(part) for part in told], [tuple, tuple])
        self.assertEqual((told[0], texts(told[1])), (indices, error))

    def test_rows(self):
        two = ("0 0 0", "1 1 1")
        half, third = "1/2 1/2 1/2", "1/3 1/3 1/3"
        self.assert_row(two, (half, half, half), (0, 1, 0), half)
        self.assert_row(two, (half, half, half, half), (0, 1, 0, 1), "0 0 0")
        self.assert_row(two, (third,) * 6, (0, 1, 0, 0, 1, 0), "0 0 0")
        self.assert_row(two, ("2/3 2/3 2/3", "2/3 2/3 2/3"), (1, 0), third)
        self.assert_row(two, ("1 1 1", "0 0 0", "1 1 1"), (1, 0, 1), "0 0 0")
        self.assert_row(two, ("1 0 0", "1 0 0", "0 0 0"), (0, 1, 0), "1 -1 -1")
        self.assert_row(two, ("3 3 3", "0 0 0", "0 0 0", "0 0 0"), (1, 1, 1, 0), "0 0 0")
        self.assert_row(("1 0 0", "0 1 0", "0 0 1"), ("1/2 1/4 1/4", "1/4 1/2 1/4"), (0, 1), "-1/4 -1/4 1/2")

    def test_no_color(self):
        for kind in (list, tuple):
            indices, error = diffuse((FULL,), kind())
            self.assertEqual((indices, error), ((), black()))
            self.assertIs(type(indices), tuple)

    def test_one_color_in_the_palette(self):
        self.assert_row(("1 2 3",), ("1 0 0", "0 1 0", "0 0 1"), (0, 0, 0), "-2 -5 -8")

    def test_the_same_color_twice_in_the_palette(self):
        self.assert_row(("1 1 1", "1 1 1", "0 0 0"), ("1 1 1", "0 0 0", "1 1 1"), (0, 2, 0), "0 0 0")

    def test_lists_and_tuples(self):
        palette, colors = colors_of("0 0 0", "1 1 1"), colors_of("1/2 1/2 1/2", "1/2 1/2 1/2")
        self.assertEqual(diffuse(palette, list(colors)), diffuse(palette, colors))

    def test_the_errors_are_added_up_exactly(self):
        # Each color lacks a little, and only all of them together reach the other color.
        little = quotients(f"1/{2 * GREAT} 1/{2 * GREAT} 1/{2 * GREAT}")
        under = taken(quotients("1/2 1/2 1/2"), little)
        palette = (NOUGHT, FULL)
        self.assertEqual(diffuse(palette, (under,))[0], (0,))
        self.assertEqual(diffuse(palette, (under, little)), ((0, 0), quotients("1/2 1/2 1/2")))
        self.assertEqual(diffuse(palette, (under, little, little))[0], (0, 0, 1))

    def test_against_the_words(self):
        colors = list(some_colors(120, 23))
        for many in (1, 2, 5, 9):
            for length in (1, 2, 40):
                told = diffuse(tuple(colors[:many]), tuple(colors[10:10 + length]))
                words = diffused_by_the_words(colors[:many], colors[10:10 + length])
                self.assertEqual((told[0], fractions(told[1])), words)

    def test_the_chosen_colors_and_the_last_error_have_the_sum_of_the_colors(self):
        colors = list(some_colors(120, 24))
        for many in (1, 2, 5, 9):
            for length in (0, 1, 2, 50):
                palette, row = tuple(colors[:many]), tuple(colors[20:20 + length])
                indices, error = diffuse(palette, row)
                self.assertEqual(len(indices), length)
                self.assertEqual(added(sum_of([palette[index] for index in indices]), error), sum_of(row))


class Unchanged(unittest.TestCase):
    def test_no_argument_changes(self):
        palette, color, row = colors_of("0 0 0", "1 1 1"), quotients("1/2 2/3 3"), list(colors_of("1/2 0 0", "7 1/9 0"))
        items = list(row)
        before = [texts(part) for part in (*palette, color, *row)]
        for _ in range(2):
            self.assertEqual(nearest_color(palette, color), 1)
            self.assertEqual(diffuse(palette, row)[0], (0, 1))
            self.assertEqual([texts(part) for part in (*palette, color, *row)], before)
        self.assertEqual([id(part) for part in row], [id(part) for part in items])


if __name__ == "__main__":
    unittest.main()
