import operator
import unittest
from fractions import Fraction
from math import gcd

from colormatch.errors import BadQuotient
from colormatch.quotients import Quotient, is_quotient, one, sign_of, size_of, total, whole, zero

SMALL = [(top, bottom) for top in (-6, -3, -2, -1, 0, 1, 2, 3, 4, 9) for bottom in (-4, -3, -1, 1, 2, 3, 6)]
GREAT = [
    (1234567890123456789012345, 9876543210987654321098765),
    (-1234567890123456789012345, 9876543210987654321098764),
    (9999999999999999999999999, -3333333333333333333333333),
    (-1000000000000000000000000, -1000000000000000000000001),
    (1000000000000000000000000, 1000000000000000000000001),
    (9999999999999999999999998, 9999999999999999999999999),
    (0, -5555555555555555555555555),
    (7, 1000000000000000000000000),
    (-5000000000000000000000000, 1),
    (1, 3),
]
RAW = SMALL + GREAT


class Case(unittest.TestCase):
    def assert_is(self, quotient, fraction):
        """The quotient is this fraction, and is kept in lowest terms."""
        self.assertEqual((quotient.top, quotient.bottom), (fraction.numerator, fraction.denominator))
        self.assertIs(type(quotient.top), int)
        self.assertIs(type(quotient.bottom), int)


class Making(Case):
    def test_lowest_terms_with_a_positive_bottom(self):
        for top, bottom in RAW:
            with self.subTest(top=top, bottom=bottom):
                quotient = Quotient(top, bottom)
                self.assert_is(quotient, Fraction(top, bottom))
                self.assertGreater(quotient.bottom, 0)
                self.assertEqual(gcd(quotient.top, quotient.bottom), 1)

    def test_zero_is_0_over_1(self):
        for bottom in (1, -1, 7, -7, 10 ** 24):
            quotient = Quotient(0, bottom)
            self.assertEqual((quotient.top, quotient.bottom), (0, 1))

    def test_bottom_0(self):
        for top in (0, 1, -1, 10 ** 24, -(10 ** 24)):
            with self.subTest(top), self.assertRaises(BadQuotient):
                Quotient(top, 0)

    def test_whole_zero_and_one(self):
        for number in (0, 1, -1, 17, -(10 ** 30)):
            self.assert_is(whole(number), Fraction(number))
        self.assert_is(zero(), Fraction(0))
        self.assert_is(one(), Fraction(1))


class Reckoning(Case):
    def pairs(self):
        for pool in (SMALL, GREAT):
            for first in pool:
                for second in pool:
                    yield first, second

    def check(self, operation):
        for first, second in self.pairs():
            result = operation(Quotient(*first), Quotient(*second))
            self.assert_is(result, operation(Fraction(*first), Fraction(*second)))

    def test_sums(self):
        self.check(operator.add)

    def test_differences(self):
        self.check(operator.sub)

    def test_products(self):
        self.check(operator.mul)

    def test_contraries(self):
        for raw in RAW:
            self.assert_is(-Quotient(*raw), -Fraction(*raw))

    def test_divisions(self):
        for first, second in self.pairs():
            if second[0] != 0:
                self.assert_is(Quotient(*first).over(Quotient(*second)), Fraction(*first) / Fraction(*second))

    def test_division_by_zero(self):
        for raw in RAW:
            with self.subTest(raw), self.assertRaises(BadQuotient):
                Quotient(*raw).over(zero())

    def test_sums_and_products_in_another_order_and_grouping(self):
        numbers = [Quotient(*raw) for raw in GREAT + SMALL[::9]]
        for a in numbers:
            for b in numbers:
                self.assertTrue(a + b == b + a)
                self.assertTrue(a * b == b * a)
                for c in numbers[::3]:
                    self.assertTrue((a + b) + c == a + (b + c))
                    self.assertTrue((a * b) * c == a * (b * c))
                    self.assertTrue(a * (b + c) == a * b + a * c)

    def test_the_example_of_the_interface(self):
        self.assertEqual(
            (str(Quotient(4, -6)), str(whole(1) + Quotient(1, 2)), str(Quotient(1, 2).over(Quotient(3, 4)))),
            ("-2/3", "3/2", "2/3"),
        )


class Comparing(Case):
    def test_order_and_equality_are_those_of_the_rational_numbers(self):
        for sign in (operator.eq, operator.ne, operator.lt, operator.le, operator.gt, operator.ge):
            for pool in (SMALL, GREAT):
                for first in pool:
                    for second in pool:
                        told = sign(Quotient(*first), Quotient(*second))
                        self.assertIs(told, sign(Fraction(*first), Fraction(*second)), (sign, first, second))

    def test_great_neighbours(self):
        many = 10 ** 24
        lesser, greater = Quotient(many, many + 1), Quotient(many + 1, many + 2)
        self.assertTrue(lesser < greater)
        self.assertTrue(lesser <= greater)
        self.assertFalse(lesser == greater)
        self.assertFalse(greater < lesser)
        self.assertFalse(greater <= lesser)

    def test_equal_to_nothing_else(self):
        for quotient, others in (
            (one(), (1, 1.0, True, "1", (1, 1), [1], Fraction(1), None, b"1")),
            (zero(), (0, 0.0, False, "0", "", (0, 1), (), [], Fraction(0), None)),
        ):
            for other in others:
                with self.subTest(quotient=str(quotient), other=other):
                    self.assertIs(quotient == other, False)
                    self.assertIs(other == quotient, False)
                    self.assertIs(quotient != other, True)

    def test_equal_only_in_top_and_bottom(self):
        self.assertFalse(Quotient(1, 2) == Quotient(1, 3))
        self.assertFalse(Quotient(1, 3) == Quotient(2, 3))
        self.assertFalse(Quotient(1, 2) == Quotient(-1, 2))


class Texts(Case):
    def test_texts(self):
        for raw, text in (
            ((2, 3), "2/3"), ((1, -2), "-1/2"), ((0, 5), "0"), ((0, -1), "0"), ((6, 3), "2"), ((-6, 3), "-2"),
            ((1, 1), "1"), ((10, 4), "5/2"), ((100, 1), "100"), ((-3, -9), "1/3"),
        ):
            with self.subTest(raw):
                self.assertEqual(str(Quotient(*raw)), text)

    def test_texts_of_great_quotients(self):
        for raw in RAW:
            self.assertEqual(str(Quotient(*raw)), str(Fraction(*raw)))
        for power in range(1, 60):
            for step in (-1, 0, 1):
                number = 10 ** power + step
                self.assertEqual(str(whole(number)), str(number))
                self.assertEqual(str(whole(-number)), str(-number))
        self.assertEqual(str(whole(10 ** 54 + 7)), "1" + "0" * 53 + "7")

    def test_texts_longer_than_those_that_python_makes_at_once(self):
        self.assertEqual(str(Quotient(-(10 ** 6000), 1)), "-1" + "0" * 6000)
        self.assertEqual(str(Quotient(1, 10 ** 6000 - 1)), "1/" + "9" * 6000)


class Totals(Case):
    def test_totals_of_lists_and_tuples(self):
        for kind in (list, tuple):
            self.assert_is(total(kind(Quotient(*raw) for raw in GREAT)), sum(Fraction(*raw) for raw in GREAT))
            self.assert_is(total(kind([Quotient(1, 2)])), Fraction(1, 2))
            self.assert_is(total(kind([Quotient(1, 2), Quotient(1, 3), Quotient(-5, 6)])), Fraction(0))

    def test_totals_of_none(self):
        for nothing in ([], ()):
            self.assert_is(total(nothing), Fraction(0))


class Signs(Case):
    def test_signs_and_sizes(self):
        for raw in RAW:
            value = Fraction(*raw)
            self.assertEqual(sign_of(Quotient(*raw)), (value > 0) - (value < 0))
            self.assert_is(size_of(Quotient(*raw)), abs(value))


class Kinds(Case):
    def test_is_quotient(self):
        for quotient in (zero(), one(), Quotient(-2, 3)):
            self.assertIs(is_quotient(quotient), True)
        for other in (0, 1, True, 1.0, "1/2", Fraction(1, 2), (1, 2), [1, 2], None, Quotient):
            with self.subTest(other):
                self.assertIs(is_quotient(other), False)


class Unchanged(Case):
    def test_no_quotient_changes(self):
        first, second = Quotient(4, -6), Quotient(5, 7)
        for operation in (
            lambda: first + second, lambda: first - second, lambda: first * second, lambda: -first,
            lambda: first == second, lambda: first < second, lambda: first <= second, lambda: str(first),
            lambda: first.over(second), lambda: total([first, second]), lambda: is_quotient(first),
            lambda: sign_of(first), lambda: size_of(first),
        ):
            operation()
            self.assertEqual((first.top, first.bottom, second.top, second.bottom), (-2, 3, 5, 7))

    def test_a_division_by_zero_changes_nothing(self):
        first, nought = Quotient(4, -6), zero()
        with self.assertRaises(BadQuotient):
            first.over(nought)
        self.assertEqual((first.top, first.bottom, nought.top, nought.bottom), (-2, 3, 0, 1))

    def test_total_leaves_its_list(self):
        values = [Quotient(1, 2), Quotient(1, 3)]
        before = list(values)
        total(values)
        self.assertEqual([id(value) for value in values], [id(value) for value in before])
        self.assertEqual([str(value) for value in values], ["1/2", "1/3"])


if __name__ == "__main__":
    unittest.main()
