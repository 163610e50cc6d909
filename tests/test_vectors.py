import unittest
from fractions import Fraction
from itertools import permutations

from colormatch.quotients import Quotient, whole
from colormatch.vectors import added, black, det, scaled, sum_of, taken
from samples import quotients, texts

A = quotients("1/2 -3 2/7")
B = quotients("0 5/3 -1")
C = quotients("4 1/9 -7/2")
GREAT = tuple(Quotient(10 ** 24 + step, 10 ** 23 + 3 * step) for step in (1, 2, 7))


def fractions(vector):
    return [Fraction(part.top, part.bottom) for part in vector]


def leibniz(rows):
    """The determinant as the sum over all orders of the columns."""
    result = Fraction(0)
    for order in permutations(range(3)):
        inversions = sum(order[i] > order[j] for i in range(3) for j in range(i + 1, 3))
        product = Fraction((-1) ** inversions)
        for row, column in zip(rows, order):
            product *= row[column]
        result += product
    return result


class Vectors(unittest.TestCase):
    def test_black(self):
        self.assertIs(type(black()), tuple)
        self.assertEqual(texts(black()), "0 0 0")

    def test_scaled(self):
        self.assertEqual(texts(scaled(Quotient(-2, 3), A)), "-1/3 2 -4/21")
        self.assertEqual(texts(scaled(whole(0), A)), "0 0 0")
        self.assertEqual(scaled(whole(1), GREAT), GREAT)

    def test_added_and_taken(self):
        self.assertEqual(texts(added(A, B)), "1/2 -4/3 -5/7")
        self.assertEqual(texts(taken(A, B)), "1/2 -14/3 9/7")
        self.assertEqual(texts(taken(B, A)), "-1/2 14/3 -9/7")
        self.assertEqual(taken(added(A, GREAT), GREAT), A)
        self.assertEqual(taken(A, A), black())

    def test_sum_of(self):
        for kind in (list, tuple):
            self.assertEqual(sum_of(kind([])), black())
            self.assertEqual(sum_of(kind([A])), A)
            self.assertEqual(texts(sum_of(kind([A, B, C]))), "9/2 -11/9 -59/14")
            self.assertEqual(sum_of(kind([C, GREAT, A, B])), sum_of(kind([B, A, C, GREAT])))

    def test_results_are_tuples_of_three_quotients(self):
        for vector in (black(), scaled(whole(2), A), added(A, B), taken(A, B), sum_of([A, B]), sum_of(())):
            self.assertIs(type(vector), tuple)
            self.assertEqual([type(part) for part in vector], [Quotient] * 3)


class Determinants(unittest.TestCase):
    def test_values(self):
        self.assertEqual(str(det(*(quotients(row) for row in ("1 0 0", "0 1 0", "0 0 1")))), "1")
        self.assertEqual(str(det(*(quotients(row) for row in ("1 2 3", "4 5 6", "7 8 10")))), "-3")
        self.assertEqual(str(det(*(quotients(row) for row in ("1/2 0 0", "5 1/3 0", "7 9 -6")))), "-1")

    def test_each_entry_counts_as_in_the_definition(self):
        for rows in permutations((A, B, C, GREAT), 3):
            value = det(*rows)
            self.assertEqual(Fraction(value.top, value.bottom), leibniz([fractions(row) for row in rows]))

    def test_two_rows_exchanged(self):
        value = det(A, B, C)
        self.assertNotEqual(value, whole(0))
        for rows in ((B, A, C), (A, C, B), (C, B, A)):
            self.assertEqual(det(*rows), -value)
        for rows in ((B, C, A), (C, A, B)):
            self.assertEqual(det(*rows), value)

    def test_equal_rows(self):
        for rows in ((A, A, B), (A, B, A), (B, A, A), (A, A, A), (GREAT, A, GREAT)):
            self.assertEqual(det(*rows), whole(0))
        self.assertEqual(det(A, black(), B), whole(0))

    def test_a_row_scaled(self):
        factor = Quotient(-5, 11)
        self.assertEqual(det(A, scaled(factor, B), C), factor * det(A, B, C))
        self.assertEqual(det(A, B, added(C, scaled(factor, A))), det(A, B, C))


class Unchanged(unittest.TestCase):
    def test_no_argument_changes(self):
        values = [A, B, C]
        before = [texts(vector) for vector in values]
        factor = Quotient(2, 3)
        det(*values)
        scaled(factor, A)
        added(A, B)
        taken(A, B)
        sum_of(values)
        self.assertEqual(len(values), 3)
        for vector, same in zip(values, (A, B, C)):
            self.assertIs(vector, same)
        self.assertEqual([texts(vector) for vector in values], before)
        self.assertEqual(str(factor), "2/3")


if __name__ == "__main__":
    unittest.main()
