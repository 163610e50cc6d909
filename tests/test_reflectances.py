import re
import unittest
from fractions import Fraction
from itertools import groupby, product
from random import Random

from colormatch.errors import LengthsDiffer, TextFault
from colormatch.quotients import Quotient, one, whole, zero
from colormatch.reflectances import (
    band_pattern, crossings, filtered, format_reflectance, parse_reflectance, sign_blocks,
)
from samples import HALF, fraction, fractions, quotients, some_reflectances, texts

NUMBER = "(?:0|[1-9][0-9]{0,3})"
VALUE = f"(?:{NUMBER}(?:/[1-9][0-9]{{0,3}}|c)?)"
FORM = re.compile(f" *{VALUE}(?: +{VALUE}){{0,7}} *")
# Whatever can follow a beginning, one of these can: it ends the bottom, the
# quotient or the text with the greatest bottom, so with the least value.
ENDS = ("", "1", "9", "99", "999", "9999", "/9999")


def fraction_of(word):
    return Fraction(int(word[:-1]), 100) if word.endswith("c") else Fraction(word)


def is_form(text):
    return FORM.fullmatch(text) is not None and all(fraction_of(word) <= 1 for word in text.split(" ") if word)


def is_beginning(text):
    return any(is_form(text + end) for end in ENDS)


def place_of_fault(text):
    """The length of the longest beginning that is the beginning of some text of the form."""
    return max(place for place in range(len(text) + 1) if is_beginning(text[:place]))


class Case(unittest.TestCase):
    def assert_fault(self, text, place):
        with self.assertRaises(TextFault) as caught:
            parse_reflectance(text)
        self.assertEqual(caught.exception.place, place, repr(text))
        self.assertIs(type(caught.exception.place), int)

    def assert_as_the_form_says(self, text):
        if is_form(text):
            told = parse_reflectance(text)
            self.assertEqual(fractions(told), tuple(fraction_of(word) for word in text.split(" ") if word), text)
        else:
            self.assert_fault(text, place_of_fault(text))


class Parsing(Case):
    def test_the_example_of_the_interface(self):
        self.assertEqual(
            (format_reflectance(parse_reflectance(" 2/4 50c  1")), band_pattern(parse_reflectance("0 1/3 1 1/2 0"))),
            ("1/2 1/2 1", (1, 3, "pass")),
        )

    def test_a_tuple_of_quotients(self):
        for text in ("1", "0 1/2 50c"):
            told = parse_reflectance(text)
            self.assertIs(type(told), tuple)
            for value in told:
                self.assertIs(type(value), Quotient)

    def test_values(self):
        for text, told in (
            ("0", "0"), ("1", "1"), ("0/5", "0"), ("0/1", "0"), ("0/9999", "0"), ("0c", "0"), ("1c", "1/100"),
            ("7c", "7/100"), ("50c", "1/2"), ("99c", "99/100"), ("100c", "1"), ("1/1", "1"), ("9999/9999", "1"),
            ("1/9999", "1/9999"), ("5/10", "1/2"), ("10/5000", "1/500"), ("123/4567", "123/4567"),
            ("1000/1001", "1000/1001"), ("9998/9999", "9998/9999"), ("999/1000", "999/1000"), ("2/4", "1/2"),
        ):
            with self.subTest(text):
                self.assertEqual(texts(parse_reflectance(text)), told)

    def test_each_hundredth(self):
        for number in range(101):
            self.assertEqual(fractions(parse_reflectance(f"{number}c")), (Fraction(number, 100),))
        for number in range(101, 10000, 7):
            self.assert_fault(f"{number}c", len(str(number)))

    def test_quotients_around_1(self):
        for top in (1, 2, 9, 10, 11, 99, 100, 101, 999, 1000, 1001, 9998, 9999):
            for bottom in range(max(1, top - 12), min(9999, top + 12) + 1):
                self.assert_as_the_form_says(f"{top}/{bottom}")
                self.assert_as_the_form_says(f"1 {top}/{bottom} 0")

    def test_one_to_eight_values(self):
        for many in range(1, 9):
            for text in (" ".join(["1/2"] * many), "  " + "   ".join(["50c"] * many) + " "):
                with self.subTest(text):
                    self.assertEqual(parse_reflectance(text), (HALF,) * many)
        self.assertEqual(texts(parse_reflectance("0 1/7 2/7 3/7 4/7 5/7 6/7 1")), "0 1/7 2/7 3/7 4/7 5/7 6/7 1")

    def test_nine_values(self):
        eight = "1 0 1 0 1 0 1 0"
        self.assertEqual(len(parse_reflectance(eight + "   ")), 8)
        for ninth in ("1", "0", "2", "1/2", "7c", "x", "/", "1 1", "\t"):
            self.assert_fault(f"{eight} {ninth}", 16)
            self.assert_fault(f"{eight}   {ninth}", 18)
            self.assert_fault(f" {eight} {ninth} ", 17)
        self.assert_fault(eight + "1", 15)
        self.assert_fault("1 0 1 0 1 0 1 2", 15)

    def test_spaces(self):
        for ahead, between, behind in product(("", " ", "  ", "   "), (" ", "  ", "   "), ("", " ", "  ", "   ")):
            text = f"{ahead}1/3{between}0{between}7c{behind}"
            with self.subTest(text):
                self.assertEqual(texts(parse_reflectance(text)), "1/3 0 7/100")

    def test_no_spaces_within_a_value(self):
        for text, place in (("1 /2", 2), ("1/ 2", 2), ("1 c", 2), ("1/2 c", 4), ("1  /2", 3), ("5 0c", 1)):
            self.assert_fault(text, place)

    def test_no_value(self):
        self.assert_fault("", 0)
        for many in (1, 2, 3, 100):
            self.assert_fault(" " * many, many)
            self.assert_fault(" " * many + "x", many)


class Faults(Case):
    def test_the_examples_of_the_document(self):
        self.assert_fault("5000/4", 5)
        self.assert_fault("3/2", 3)
        self.assert_fault("2 1", 1)

    def test_numbers(self):
        for text, place in (
            ("00", 1), ("07", 1), ("007", 1), ("0000", 1), ("01/2", 1), ("05c", 1), ("10000", 4), ("12345", 4),
            ("123456", 4), ("12345/6", 4), ("10000c", 4), ("99999", 4), ("1 00", 3), ("1/2 07", 5),
        ):
            self.assert_fault(text, place)

    def test_numbers_that_are_too_great(self):
        for text, place in (
            ("2", 1), ("9", 1), ("10", 2), ("100", 3), ("101", 3), ("1234", 4), ("9999", 4), ("2 ", 1), ("10 ", 2),
            ("9999  1", 4), ("1 2", 3), ("1 2 1", 3), (" 5", 2), (" 5 ", 2),
        ):
            self.assert_fault(text, place)

    def test_bottoms(self):
        for text, place in (
            ("5/", 2), ("0/", 2), ("1/", 2), ("9999/", 5), ("5/0", 2), ("0/0", 2), ("1/0", 2), ("1/01", 2), ("1/00", 2),
            ("1/x", 2), ("1//2", 2), ("1/c", 2), ("1/-2", 2), ("1/ ", 2), ("1/12345", 6), ("1/10000", 6),
            ("0/10000", 6), ("10000/1", 4), ("1/2/3", 3), ("1/2c", 3), ("1/2 /3", 4), ("1/9999c", 6),
        ):
            self.assert_fault(text, place)

    def test_quotients_that_are_too_great(self):
        for text, place in (
            ("2/1", 3), ("2/1 ", 3), ("2/1x", 3), ("3/2", 3), ("3/2 1", 3), ("11/10", 5), ("101/100", 7),
            ("1001/1000", 8), ("9999/9998", 8), ("9999/1", 5), ("9999/9", 6), ("9999/99", 7), ("9999/999", 8),
            ("9999/98", 6), ("5000/499", 5), ("5000/5", 6), ("5000/50", 7), ("5000/500", 8), ("5012/50", 7),
            ("5012/500", 7), ("5012/501", 8), ("5012/5011", 8), ("2000/1999", 5), ("1999/1", 6), ("2000/1", 5),
            ("100/9", 5), ("100/99", 6), ("1000/9", 6), ("1000/999", 8), ("1001/1000 1", 8), ("2000/1 ", 5),
            ("1 3/2", 5), ("1 5000/4", 7),
        ):
            self.assert_fault(text, place)

    def test_hundredths(self):
        for text, place in (
            ("101c", 3), ("999c", 3), ("9999c", 4), ("1cc", 2), ("1c1", 2), ("1c/2", 2), ("c", 0), ("1 c", 2),
            ("cc", 0), ("1C", 1), ("00c", 1), ("100c1", 4), ("1 101c", 5), ("1c2c", 2),
        ):
            self.assert_fault(text, place)

    def test_other_signs(self):
        for sign in ("\t", "\n", "\r", "\r\n", "\x0b", "\x0c", "\x00", "\xa0", "\u2003", "\u3000", "x", "-", "+", ".",
                     ",", ";", "_", "%", "\u0662", "\uff12", "\u00b2", "\u00bd", "\u2044", "\U0001d7d8", "\\"):
            self.assert_fault(sign, 0)
            self.assert_fault(f"{sign}1", 0)
            self.assert_fault(f" {sign}", 1)
            self.assert_fault(f"1{sign}", 1)
            self.assert_fault(f"1 {sign}", 2)
            self.assert_fault(f"1{sign}1", 1)
            self.assert_fault(f"1/2{sign}", 3)
            self.assert_fault(f"1/{sign}", 2)
            self.assert_fault(f"12{sign}", 2)
            self.assert_fault(f"12c{sign}", 3)
        self.assert_fault("1_0", 1)
        self.assert_fault("1/1_0", 3)
        self.assert_fault("-0", 0)
        self.assert_fault("0.5", 1)

    def test_all_signs_of_one_byte(self):
        for code in range(256):
            for text in (chr(code), f"1{chr(code)}", f"1/2{chr(code)}", f"1/{chr(code)}", f" {chr(code)}"):
                self.assert_as_the_form_says(text)

    def test_the_first_of_several_faults(self):
        self.assert_fault("2 00", 1)
        self.assert_fault("1 3/2 x", 5)
        self.assert_fault("1 1 2 1 1 1 1 1 1 1", 5)

    def test_long_texts(self):
        self.assert_fault(" " * 20000, 20000)
        self.assert_fault("1" * 20000, 4)
        self.assert_fault("1 " * 20000, 16)
        self.assertEqual(parse_reflectance(" " * 20000 + "1" + " " * 20000), (one(),))


class AllTexts(Case):
    """Against the definition: regular expressions, fractions, and possible ends."""

    def test_short_texts(self):
        for length in range(6):
            for signs in product(" 0159/c", repeat=length):
                self.assert_as_the_form_says("".join(signs))

    def test_longer_texts(self):
        source = Random(9)
        for _ in range(6000):
            words = source.choices(
                ("0", "1", "1/2", "50c", "100c", "0/5", "9999/9999", "1/9999", "12/34", "2", "3/2", "101c", "00",
                 "5000/4"),
                (9, 9, 9, 9, 9, 9, 9, 9, 9, 1, 1, 1, 1, 1), k=source.randint(1, 9),
            )
            text = source.choice(("", " ")) + " ".join(words) + source.choice(("", " ", "  "))
            if source.randint(0, 1):
                at = source.randrange(len(text) + 1)
                text = text[:at] + source.choice(" 0123456789/cx\t") + text[at + source.randint(0, 2):]
            self.assert_as_the_form_says(text)

    def test_quotients(self):
        source = Random(99)
        for _ in range(4000):
            top = source.randrange(10 ** source.randint(1, 5))
            bottom = source.randrange(10 ** source.randint(1, 5))
            self.assert_as_the_form_says(f"{top}/{bottom}{source.choice(('', ' ', 'c', ' 1'))}")


class Formatting(Case):
    def test_texts_in_lowest_terms_with_single_spaces(self):
        self.assertEqual(format_reflectance((Quotient(2, 4),)), "1/2")
        self.assertEqual(format_reflectance((Quotient(50, 100), zero(), one(), Quotient(3, 9))), "1/2 0 1 1/3")
        self.assertEqual(format_reflectance(parse_reflectance("  10/100   25c 0/7 7/7 ")), "1/10 1/4 0 1")

    def test_great_quotients(self):
        value = Quotient(2 * 10 ** 25, 2 * 10 ** 25 + 2)
        self.assertEqual(format_reflectance((value, one())), f"{10 ** 25}/{10 ** 25 + 1} 1")

    def test_lengths(self):
        for many in (1, 2, 8, 9, 20):
            self.assertEqual(format_reflectance((HALF,) * many), " ".join(["1/2"] * many))

    def test_read_back(self):
        source = Random(2)
        for _ in range(1000):
            reflectance = []
            for _ in range(source.randint(1, 8)):
                bottom = source.choice((1, 2, 100, source.randint(1, 9999)))
                reflectance.append(Quotient(source.randint(0, bottom), bottom))
            reflectance = tuple(reflectance)
            self.assertEqual(parse_reflectance(format_reflectance(reflectance)), reflectance)
        for number in range(101):
            reflectance = parse_reflectance(f"{number}c")
            self.assertEqual(parse_reflectance(format_reflectance(reflectance)), reflectance)


class Filters(Case):
    def test_products(self):
        for first, second, told in (
            ("1/2", "1/3", "1/6"),
            ("1 0 1/2 2/3", "1/5 1 1/2 3/4", "1/5 0 1/4 1/2"),
            ("1 1 1 1 1", "0 1/2 1/3 1 1/7", "0 1/2 1/3 1 1/7"),
            ("0 0", "1 1/2", "0 0"),
        ):
            result = filtered(quotients(first), quotients(second))
            self.assertIs(type(result), tuple)
            self.assertEqual(texts(result), told)
            self.assertEqual(filtered(quotients(second), quotients(first)), result)

    def test_great_quotients(self):
        value = Quotient(10 ** 24, 10 ** 24 + 1)
        result = filtered((value, HALF), (value, value))
        self.assertEqual(fractions(result), (fraction(value) ** 2, fraction(value) / 2))

    def test_any_length(self):
        for many in (1, 2, 8, 30):
            self.assertEqual(filtered((HALF,) * many, (HALF,) * many), (Quotient(1, 4),) * many)

    def test_three_filters_in_any_order(self):
        for first, second, third in zip(*(some_reflectances(6, 30, seed) for seed in (1, 2, 3))):
            self.assertEqual(filtered(filtered(first, second), third), filtered(filtered(third, first), second))


def signs_of(first, second):
    differences = [a - b for a, b in zip(fractions(first), fractions(second))]
    return [difference > 0 for difference in differences if difference != 0]


class Crossings(Case):
    def test_the_example_of_the_document(self):
        self.assertEqual(crossings(parse_reflectance("1/2 1/2 0"), parse_reflectance("0 1/2 1/2")), 1)

    def test_counts(self):
        for first, second, count in (
            ("1/2", "1/2", 0), ("1/2", "0", 0), ("0", "1/2", 0), ("1 0", "0 1", 1), ("0 1", "1 0", 1),
            ("1 0 1", "0 1 0", 2), ("1 0 1 0 1 0 1 0", "0 1 0 1 0 1 0 1", 7), ("1 1 0 0 1 1", "0 0 1 1 0 0", 2),
            ("1/2 1/2 1/2 1/2", "1/2 1/2 1/2 1/2", 0), ("1/3 1 0 2/3", "1/2 1/2 1/2 1/2", 3),
            ("1/2 1 0 1/2", "1/2 0 1 1/2", 1), ("1 1/2 1 1/2 1", "0 1/2 0 1/2 0", 0),
            ("1 1/2 0 1/2 1", "0 1/2 1 1/2 0", 2), ("1/2 1 1/2", "1/2 0 1/2", 0), ("1 1/2 1/2 0", "0 1/2 1/2 1", 1),
            ("1/2 1/3", "1/3 1/2", 1), ("2/3 1/3", "1/3 1/4", 0),
        ):
            with self.subTest(first=first, second=second):
                told = crossings(quotients(first), quotients(second))
                self.assertEqual(told, count)
                self.assertIs(type(told), int)
                self.assertEqual(crossings(quotients(second), quotients(first)), count)

    def test_all_small_reflectances(self):
        half = (HALF,) * 6
        for values in product((zero(), HALF, one()), repeat=6):
            runs = len(list(groupby(signs_of(values, half))))
            self.assertEqual(crossings(values, half), max(runs - 1, 0))

    def test_great_quotients(self):
        for first, second in zip(some_reflectances(9, 60, 4), some_reflectances(9, 60, 5)):
            runs = len(list(groupby(signs_of(first, second))))
            self.assertEqual(crossings(first, second), max(runs - 1, 0))
        great = 10 ** 24
        near, nearer = Quotient(great, great + 1), Quotient(great + 1, great + 2)
        self.assertEqual(crossings((near, nearer, near), (nearer, near, nearer)), 2)
        self.assertEqual(crossings((near, nearer, near), (near, near, nearer)), 1)


class Blocks(Case):
    def test_blocks(self):
        for differences, told in (
            ("0 0 0", []), ("0 1/2 0", [[1]]), ("1 0 1/3 -1 -1/2 0", [[0, 2], [3, 4]]), ("-1 1 -1", [[0], [1], [2]]),
            ("0 -1/7 0 1 0 1/2 -1", [[1], [3, 5], [6]]),
        ):
            self.assertEqual(sign_blocks(quotients(differences)), told)


class UnequalLengths(Case):
    def test_lengths(self):
        for first in range(1, 10):
            for second in range(1, 10):
                for operation in (filtered, crossings):
                    if first == second:
                        operation((HALF,) * first, (HALF,) * second)
                    else:
                        with self.subTest(first=first, second=second), self.assertRaises(LengthsDiffer):
                            operation((HALF,) * first, (HALF,) * second)


def first_pattern(reflectance):
    """The first band pattern, by the words of the document."""
    count = len(reflectance)
    for i in range(count):
        for j in range(i + 1, count):
            for kind, inside, outside in (("pass", 1, 0), ("stop", 0, 1)):
                if all(
                    reflectance[k] == whole(inside if i < k < j else outside) for k in range(count) if k not in (i, j)
                ):
                    return (i, j, kind)
    return None


class BandPatterns(Case):
    def test_patterns(self):
        for text, told in (
            ("0 1/3 1 1/2 0", (1, 3, "pass")), ("1 1/3 0 1/2 1", (1, 3, "stop")),
            ("1/3 1/2", (0, 1, "pass")), ("0 0", (0, 1, "pass")), ("1 1", (0, 1, "pass")), ("1 0", (0, 1, "pass")),
            ("1/2 1/2 1/2", None), ("1/2 1/2 0", (0, 1, "pass")), ("1/2 1/2 1", (0, 1, "stop")),
            ("1/2 0 1/2", (0, 2, "stop")), ("1/2 1 1/2", (0, 2, "pass")), ("0 1/2 1/2", (1, 2, "pass")),
            ("1 1/2 1/2", (1, 2, "stop")), ("0 0 0 0", (0, 1, "pass")), ("1 1 1 1", (0, 1, "stop")),
            ("0 0 0 1", (0, 2, "stop")), ("1 0 0 0", (0, 1, "pass")), ("0 1 0 0", (0, 1, "pass")),
            ("0 0 1 0", (1, 2, "pass")), ("0 1 1 0", (0, 2, "pass")), ("1 1 0 0", (0, 1, "pass")),
            ("1 0 0 1", (0, 2, "stop")), ("1 1 1 0", (0, 2, "pass")), ("1/2 1 1 1/2 0", (0, 3, "pass")),
            ("1 1 1/3 1/4 1", (2, 3, "stop")), ("0 0 0 1/2 1/3", (3, 4, "pass")), ("0 1/2 1/3 1/4 0", None),
            ("1/2 1/2 1/3 1/3", None), ("0 1 0 1 0", None), ("1 1 0 1/2 0", None), ("1/2 0 1 0", None),
            ("1/5 1 1 1 1/7", (0, 4, "pass")), ("1/5 0 0 0 1/7", (0, 4, "stop")), ("1 1 1/3 1/3", (2, 3, "stop")),
            ("1 1/2 0 0 1/2 1", (1, 4, "stop")), ("0 0 1/2 1 1 1/2", (2, 5, "pass")), ("1/2 1/2 0 1", None),
        ):
            with self.subTest(text):
                reflectance = quotients(text)
                self.assertEqual(first_pattern(reflectance), told)
                self.assertEqual(band_pattern(reflectance), told)

    def test_a_tuple_of_two_integers_and_a_word(self):
        told = band_pattern(quotients("0 1/3 1 1/2 0"))
        self.assertIs(type(told), tuple)
        self.assertEqual([type(part) for part in told], [int, int, str])

    def test_no_two_bands(self):
        for value in (zero(), HALF, one()):
            self.assertIsNone(band_pattern((value,)))

    def test_all_small_reflectances(self):
        for many in range(8):
            for values in product((zero(), HALF, one()), repeat=many):
                self.assertEqual(band_pattern(values), first_pattern(values), texts(values))

    def test_values_near_0_and_1(self):
        near_zero, near_one = Quotient(1, 10 ** 24), Quotient(10 ** 24 - 1, 10 ** 24)
        for at, told in enumerate((None, (1, 3, "pass"), None, (1, 3, "pass"), None)):
            values = list(quotients("0 1/3 1 1/2 0"))
            values[at] = near_one if at == 2 else near_zero
            self.assertEqual(band_pattern(tuple(values)), told)

    def test_long_reflectances(self):
        many = 2000
        self.assertEqual(band_pattern((zero(),) * many), (0, 1, "pass"))
        self.assertEqual(band_pattern((one(),) * many), (0, 1, "stop"))
        self.assertEqual(band_pattern((HALF,) + (one(),) * many + (HALF,)), (0, many + 1, "pass"))
        self.assertEqual(
            band_pattern((zero(),) * many + (HALF,) + (one(),) * many + (HALF,) + (zero(),) * many),
            (many, 2 * many + 1, "pass"),
        )
        self.assertIsNone(band_pattern((zero(), one()) * many))


class Unchanged(Case):
    def test_no_argument_changes(self):
        first, second = quotients("1/2 0 1 1/3"), quotients("0 1/4 1/5 1")
        lists = list(first), list(second)
        for left, right in ((first, second), lists):
            format_reflectance(left)
            filtered(left, right)
            crossings(left, right)
            band_pattern(left)
            self.assertEqual((texts(left), texts(right)), ("1/2 0 1 1/3", "0 1/4 1/5 1"))
        self.assertEqual([type(part) for part in lists], [list, list])

    def test_the_same_call_tells_the_same_again(self):
        for _ in range(3):
            self.assertEqual(texts(parse_reflectance("1 1/2")), "1 1/2")
            self.assert_fault("3/2", 3)


if __name__ == "__main__":
    unittest.main()
