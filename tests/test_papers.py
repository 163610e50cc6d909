import unittest
from fractions import Fraction
from itertools import combinations, product

from colormatch.errors import BadReflectance, IsBlack
from colormatch.matches import matching_lamp, other_match
from colormatch.observers import Observer, color_of
from colormatch.papers import (
    explain_bright, explain_end, explain_lamp, explain_only, explain_surface, judge_bright, judge_end, judge_lamp,
    judge_only, judge_surface,
)
from colormatch.quotients import Quotient, one, whole, zero
from colormatch.ranges import band_range, least_reflectance
from colormatch.reflectances import band_pattern, crossings
from colormatch.solid import brightest, surface_of, surface_test
from colormatch.vectors import black
from samples import (
    EXAMPLE, HALF, TINY, bad_reflectances, beside, curve_bands, example_view, fraction, fraction_det, fraction_sum,
    fractions, patterns, picture, quotient, quotients, some_colors, some_patterns, some_reflectances, texts, views,
    with_value,
)

ENDS = ("least", "greatest")
SIDES = ("low", "high")
KINDS = ("pass", "stop")
GREAT = 10 ** 24


class Equal:
    """What says that it equals everything."""

    def __eq__(self, other):
        return True

    def __hash__(self):
        return 1


class Angry:
    """What cannot be compared, measured or iterated over."""

    def fail(self, *rest):
        raise RuntimeError("this was asked for something")

    __eq__ = __lt__ = __le__ = __gt__ = __ge__ = __len__ = __iter__ = __bool__ = __getitem__ = __contains__ = fail
    __hash__ = None


# What is neither a word of a paper nor a band, a quotient, a tuple of quotients or a reason.
JUNK = (
    None, True, False, -1, 7, 8, 100, 10 ** 30, 0.5, 1.0, float("nan"), 1j, Fraction(1, 2), "", "x", "0", "LOW", "low ",
    b"low", b"surface", (), [], {}, set(), (None,), ((),), object(), Equal(), Angry(), Quotient, len, range(4),
    iter(()), Quotient(1, 2), Quotient(-1, 2), whole(0), whole(1), whole(2), ValueError("x"), (Equal(), Equal()),
    NotImplemented,
)
WORDS = ("surface", "outside", "only", "another", "bright", "dark", "lamp", "few", "end", "bound")


def is_share_row(holder, value):
    return (
        isinstance(value, tuple) and len(value) == len(holder)
        and all(isinstance(part, Quotient) and 0 <= fraction(part) <= 1 for part in value)
    )


def are_bands(holder, *bands):
    """Whether these are bands, each one less than the next."""
    if not all(type(band) is int for band in bands):
        return False
    return all(0 <= band < len(holder) for band in bands) and list(bands) == sorted(set(bands))


def is_one_of(value, words):
    return type(value) is str and value in words


def form(paper, *forms):
    """The word of a paper that has one of these (word, length)s, or None."""
    if isinstance(paper, tuple) and len(paper) > 0 and type(paper[0]) is str and (paper[0], len(paper)) in forms:
        return paper[0]
    return None


def color_by_the_words(view, reflectance):
    return fraction_sum([fractions(generator) for generator in view.generators], fractions(reflectance))


def bound_by_the_words(view, i, j, side, left_out=None):
    """Point 20 of the document, in fractions, without one of the bands."""
    generators = [fractions(generator) for generator in view.generators]
    bands = range(i + 1, j) if side == "low" else [*range(i), *range(j + 1, len(view))]
    return sum((fraction_det(generators[i], generators[j], generators[k]) for k in bands if k != left_out), Fraction(0))


def place(view, i, j, color):
    """det(g_i, g_j, color) for a color in fractions."""
    return fraction_det(fractions(view.generators[i]), fractions(view.generators[j]), color)


def is_pattern_by_the_words(reflectance, i, j, kind):
    between, outside = (1, 0) if kind == "pass" else (0, 1)
    values = fractions(reflectance)
    return all(
        values[k] == (between if i < k < j else outside) for k in range(len(values)) if k not in (i, j)
    )


def surface_by_the_words(view, color, paper):
    word = form(paper, ("surface", 2), ("outside", 4))
    if word == "surface":
        return is_share_row(view, paper[1]) and color_by_the_words(view, paper[1]) == fractions(color)
    if word is None or not are_bands(view, *paper[1:3]) or not is_one_of(paper[3], SIDES):
        return False
    _, i, j, side = paper
    bound, at = bound_by_the_words(view, i, j, side), place(view, i, j, fractions(color))
    return at < bound if side == "low" else at > bound


def only_by_the_words(view, reflectance, paper):
    word = form(paper, ("only", 4), ("another", 2))
    if word == "only":
        return (
            are_bands(view, *paper[1:3]) and is_one_of(paper[3], KINDS)
            and is_pattern_by_the_words(reflectance, *paper[1:])
        )
    if word is None or not is_share_row(view, paper[1]) or fractions(paper[1]) == fractions(reflectance):
        return False
    return color_by_the_words(view, paper[1]) == color_by_the_words(view, reflectance)


def bright_by_the_words(view, color, paper):
    word = form(paper, ("bright", 6), ("dark", 4))
    if word == "dark":
        _, i, j, side = paper
        if not are_bands(view, i, j) or not is_one_of(side, SIDES):
            return False
        at = place(view, i, j, fractions(color))
        return bound_by_the_words(view, i, j, side) == 0 and (at > 0 if side == "high" else at < 0)
    if word is None:
        return False
    _, t, r, i, j, kind = paper
    if not isinstance(t, Quotient) or fraction(t) <= 0 or not is_share_row(view, r):
        return False
    if not are_bands(view, i, j) or not is_one_of(kind, KINDS):
        return False
    at = place(view, i, j, fractions(color))
    return (
        color_by_the_words(view, r) == tuple(fraction(t) * part for part in fractions(color))
        and is_pattern_by_the_words(r, i, j, kind) and (at < 0 if kind == "pass" else at > 0)
    )


def lamp_by_the_words(observer, first, second, paper):
    word = form(paper, ("lamp", 2), ("few", 2))
    if word == "few":
        return type(paper[1]) is int and 0 <= paper[1] <= 2 and first != second and crossings(first, second) == paper[1]
    if word is None or not isinstance(paper[1], tuple) or len(paper[1]) != len(observer):
        return False
    weights = paper[1]
    if not all(isinstance(weight, Quotient) and fraction(weight) > 0 for weight in weights):
        return False
    rows = [tuple(part * fraction(weight) for part in band) for band, weight in zip(observer.bands, weights)]
    return fraction_sum(rows, fractions(first)) == fraction_sum(rows, fractions(second))


def end_by_the_words(view, color, band, end, paper):
    if form(paper, ("end", 3)) is None or not is_share_row(view, paper[1]):
        return False
    _, r, reason = paper
    if color_by_the_words(view, r) != fractions(color):
        return False
    v = fraction(r[band])
    if form(reason, ("bound", 1)):
        return v == (0 if end == "least" else 1)
    if not isinstance(reason, tuple) or len(reason) != 3:
        return False
    i, j, side = reason
    if not are_bands(view, i, j) or band in (i, j) or not is_one_of(side, SIDES):
        return False
    generator = fractions(view.generators[band])
    e = tuple(part - v * used for part, used in zip(fractions(color), generator))
    if place(view, i, j, e) != bound_by_the_words(view, i, j, side, band):
        return False
    slope = place(view, i, j, generator)
    return slope > 0 if (end, side) in (("least", "high"), ("greatest", "low")) else slope < 0


def changed_rows(row):
    """Tuples of quotients that differ from one: in each place, in length and in kind."""
    for at, value in enumerate(row):
        beyond = (one() + TINY, -TINY, whole(-1), whole(2))
        for other in (value + TINY, value - TINY, one() - value, zero(), one(), *beyond):
            if other != value:
                yield with_value(row, at, other)
        for other in (0, 1, True, None, "1/2", 0.5, Equal(), Angry(), (value,)):
            yield with_value(row, at, other)
        yield row[:at] + row[at + 1:]
    yield from (row + (row[0],), row + (zero(),), (zero(),) + row, row[::-1])
    yield from ((), list(row), (row,), dict(enumerate(row)))


def forgeries(paper, many):
    """Papers that differ from one in one place, in length or in kind."""
    yield from (paper[1:], paper[:-1], paper + (paper[-1],), paper + (None,), paper[::-1])
    yield from (list(paper), (paper,), paper[0])
    for at, part in enumerate(paper):
        others = list(JUNK) + list(WORDS + SIDES + KINDS + ENDS) + list(range(-1, many + 1))
        if isinstance(part, tuple):
            others += changed_rows(part) if part and isinstance(part[0], Quotient) else forgeries(part, many)
        if isinstance(part, Quotient):
            others += [part + TINY, part - TINY, -part, part + one(), zero(), part.top]
        for other in others:
            yield with_value(paper, at, other)
    # Bands exchanged, or both the same.
    for at in range(len(paper) - 1):
        yield paper[:at] + (paper[at + 1], paper[at]) + paper[at + 2:]
        yield with_value(paper, at, paper[at + 1])


def no_papers():
    """Things of all kinds, and tuples of them that begin with a word of a paper."""
    yield from JUNK
    yield from WORDS
    for word in WORDS + (None, 3, Equal(), HALF):
        for part in JUNK:
            for length in (1, 2, 3, 4, 5, 6, 7):
                yield (word,) + (part,) * (length - 1)
                yield [word] + [part] * (length - 1)


def lit_colors(view, count, seed):
    return [color_of(view, reflectance) for reflectance in some_reflectances(len(view), count, seed)]


def colors_around(view, count, seed):
    """Colors of reflectances, colors on bounds and just beside them, and any others."""
    yield from lit_colors(view, count, seed)
    yield from some_colors(count, seed)
    yield from (black(), color_of(view, (one(),) * len(view)))
    for i, j, _, reflectance in list(patterns(len(view), (HALF,)))[::5]:
        color = color_of(view, reflectance)
        yield from (color, beside(view, i, j, color, TINY), beside(view, i, j, color, -TINY))


def side_papers(word, many):
    """All papers of a word, two numbers and a side, some of them beyond the bands."""
    for i, j, side in product(range(-1, many + 1), range(-1, many + 1), SIDES):
        yield (word, i, j, side)


class Case(unittest.TestCase):
    def assert_judged(self, told, words, paper):
        self.assertIs(type(told), bool)
        self.assertEqual(told, words, repr(paper))

    def assert_forgeries_judged(self, paper, many, judge, words):
        """A paper is taken, and what differs from it is judged as the document's words say; how many are refused."""
        self.assert_judged(judge(paper), True, paper)
        self.assertTrue(words(paper))
        refused = 0
        for forged in forgeries(paper, many):
            taken = judge(forged)
            self.assert_judged(taken, words(forged), forged)
            refused += not taken
        self.assertGreater(refused, 50)


class Surface(Case):
    view = example_view()

    def judge(self, color, paper):
        return judge_surface(self.view, quotients(color), paper)

    def test_by_hand(self):
        for color, reflectance in (
            ("1 1 2", "3/8 3/8 1/8 1/8"), ("2 3 7", "1/2 1/2 1/2 1/2"), ("2 3 7", "1/3 1 0 2/3"), ("0 0 0", "0 0 0 0"),
            ("4 6 14", "1 1 1 1"), ("1 2 4", "0 0 1 0"),
        ):
            self.assertIs(self.judge(color, ("surface", quotients(reflectance))), True)
        for color, reflectance in (
            ("1 1 2", "3/8 3/8 1/8 1/7"), ("2 3 8", "1/2 1/2 1/2 1/2"), ("1 0 1", "1 0 1 0"), ("0 0 0", "0 0 0 1"),
            ("5 6 14", "2 1 1 1"), ("-1 0 0", "-1 0 0 0"),
        ):
            self.assertIs(self.judge(color, ("surface", quotients(reflectance))), False)

    def test_outside_by_hand(self):
        # The determinant of the bands 0 and 3 and (1, 0, 1) is 3, above 0.
        self.assertIs(self.judge("1 0 1", ("outside", 0, 3, "high")), True)
        for paper in (
            ("outside", 0, 3, "low"), ("outside", 3, 0, "high"), ("outside", 3, 0, "low"), ("outside", 0, 2, "high"),
            ("outside", 3, 3, "high"), ("outside", 0, 0, "high"), ("outside", -1, 3, "high"),
            ("outside", 0, -1, "high"), ("outside", 0, 4, "high"), ("outside", 0, 3, "HIGH"),
            ("outside", 0, 3), ("outside", 0, 3, "high", "high"), ("outside", None, 3, "high"),
            ("outside", False, 3, "high"), ("outside", zero(), whole(3), "high"), ("outside", "0", "3", "high"),
            ("outside", 0.0, 3.0, "high"), ["outside", 0, 3, "high"], ("surface", 0, 3, "high"), ("dark", 0, 3, "high"),
        ):
            with self.subTest(paper):
                self.assertIs(self.judge("1 0 1", paper), False)

    def test_on_a_bound_and_beyond(self):
        for view in views():
            for i, j, kind, reflectance in patterns(len(view), (Quotient(2, 5),)):
                side, step = ("low", -TINY) if kind == "pass" else ("high", TINY)
                color = color_of(view, reflectance)
                paper = ("outside", i, j, side)
                self.assertIs(judge_surface(view, color, paper), False)
                self.assertIs(judge_surface(view, beside(view, i, j, color, -step), paper), False)
                beyond = beside(view, i, j, color, step)
                self.assertIs(judge_surface(view, beyond, paper), True)
                self.assertEqual(explain_surface(view, beyond), paper)

    def test_all_sides_of_all_pairs(self):
        for view in views():
            for color in list(colors_around(view, 3, 81))[:20]:
                for paper in side_papers("outside", len(view)):
                    self.assert_judged(
                        judge_surface(view, color, paper), surface_by_the_words(view, color, paper), paper
                    )

    def test_the_maker_and_what_is_changed_in_its_papers(self):
        for view in views():
            for color in (lit_colors(view, 1, 82) + [quotients("1 0 1"), quotients("-1 2 -5")]):
                paper = explain_surface(view, color)
                self.assertEqual(paper[0], "surface" if surface_test(view, color) is None else "outside")
                self.assert_forgeries_judged(
                    paper, len(view), lambda forged: judge_surface(view, color, forged),
                    lambda forged: surface_by_the_words(view, color, forged),
                )

    def test_just_one_of_the_two_kinds(self):
        kinds = set()
        for view in views():
            reflectances = list(some_reflectances(len(view), 4, 83)) + [(one(),) * len(view), (zero(),) * len(view)]
            for color in colors_around(view, 4, 83):
                paper = explain_surface(view, color)
                self.assertIs(judge_surface(view, color, paper), True)
                outside = [other for other in side_papers("outside", len(view)) if judge_surface(view, color, other)]
                surface = [other for other in reflectances if judge_surface(view, color, ("surface", other))]
                if paper[0] == "surface":
                    self.assertEqual(outside, [])
                else:
                    self.assertIn(paper, outside)
                    self.assertEqual(surface, [])
                kinds.add(paper[0])
        self.assertEqual(kinds, {"surface", "outside"})

    def test_no_papers(self):
        for color in ("1 1 2", "1 0 1", "0 0 0", "1/2 1 2"):
            for paper in no_papers():
                self.assertIs(self.judge(color, paper), False)


class Only(Case):
    view = example_view()

    def judge(self, reflectance, paper):
        return judge_only(self.view, quotients(reflectance), paper)

    def test_by_hand(self):
        for reflectance, pattern in (
            ("0 1/3 1 1/2", (1, 3, "pass")), ("1/2 1 1 0", (0, 3, "pass")), ("1 1/2 0 1/3", (1, 3, "stop")),
            ("0 0 0 0", (0, 1, "pass")), ("0 0 0 0", (0, 3, "stop")), ("0 0 0 0", (2, 3, "pass")),
            ("1 1 1 1", (1, 2, "stop")), ("1 1 1 1", (0, 3, "pass")), ("1 1 0 0", (1, 3, "stop")),
            ("1 1 0 0", (0, 2, "pass")), ("1 1 0 0", (0, 1, "pass")),
        ):
            with self.subTest(reflectance=reflectance, pattern=pattern):
                self.assertIs(self.judge(reflectance, ("only",) + pattern), True)
        for reflectance, pattern in (
            ("0 1/3 1 1/2", (1, 3, "stop")), ("0 1/3 1 1/2", (1, 2, "pass")), ("0 1/3 1 1/2", (0, 3, "pass")),
            ("0 1/3 1 1/2", (3, 1, "pass")), ("0 1/3 1 1/2", (1, 1, "pass")), ("0 1/3 1 1/2", (1, 4, "pass")),
            ("0 1/3 1 1/2", (1, -1, "pass")), ("0 1/3 1 1/2", (-3, 3, "pass")), ("0 1/3 1 1/2", (True, 3, "pass")),
            ("0 1/3 1 1/2", (1, 3, "PASS")), ("0 0 0 0", (0, 3, "pass")), ("1 1 1 1", (0, 3, "stop")),
            ("1/2 1/2 1/2 1/2", (0, 3, "pass")), ("1/2 1/2 1/2 1/2", (1, 2, "stop")), ("0 0 0 0", (0, 1, "stop")),
            ("0 1/3 1 1/2", (1, 3)), ("0 1/3 1 1/2", (1, 3, "pass", "pass")), ("0 1/3 1 1/2", ()),
        ):
            with self.subTest(reflectance=reflectance, pattern=pattern):
                self.assertIs(self.judge(reflectance, ("only",) + pattern), False)

    def test_another_by_hand(self):
        half = "1/2 1/2 1/2 1/2"
        for other in ("1/3 1 0 2/3", "2/3 0 1 1/3", "3/5 1/5 4/5 2/5"):
            self.assertIs(self.judge(half, ("another", quotients(other))), True)
            self.assertIs(self.judge(other, ("another", quotients(half))), True)
        for other in (half, "1 -1 2 0", "0 2 -1 1", "1/3 1 0 1", "0 0 0 0", "1/2 1/2 1/2", "1/2 1/2 1/2 1/2 0"):
            self.assertIs(self.judge(half, ("another", quotients(other))), False)

    def test_all_patterns(self):
        for view in views():
            reflectances = [row for *_, row in some_patterns(len(view), (zero(), HALF, one()))]
            for reflectance in reflectances + list(some_reflectances(len(view), 5, 84)):
                for i, j, kind in product(range(-1, len(view) + 1), range(-1, len(view) + 1), KINDS):
                    paper = ("only", i, j, kind)
                    self.assert_judged(
                        judge_only(view, reflectance, paper), only_by_the_words(view, reflectance, paper), paper
                    )

    def test_the_maker_and_what_is_changed_in_its_papers(self):
        for view in views():
            zeros_and_ones = (zero(), one()) * len(view)
            for reflectance in ((HALF,) * len(view), zeros_and_ones[:len(view)], (one(),) * (len(view) - 1) + (HALF,)):
                paper = explain_only(view, reflectance)
                self.assertEqual(paper[0], "another" if band_pattern(reflectance) is None else "only")
                self.assert_forgeries_judged(
                    paper, len(view), lambda forged: judge_only(view, reflectance, forged),
                    lambda forged: only_by_the_words(view, reflectance, forged),
                )

    def test_just_one_of_the_two_kinds(self):
        kinds = set()
        for view in views():
            reflectances = [row for *_, row in some_patterns(len(view), (zero(), Quotient(1, 3), one()))]
            reflectances += list(some_reflectances(len(view), 20, 85))
            for reflectance in reflectances:
                paper = explain_only(view, reflectance)
                self.assertIs(judge_only(view, reflectance, paper), True)
                pairs = combinations(range(len(view)), 2)
                claims = [("only", i, j, kind) for (i, j), kind in product(pairs, KINDS)]
                only = [claim for claim in claims if judge_only(view, reflectance, claim)]
                color = color_of(view, reflectance)
                others = [surface_of(view, color), least_reflectance(view, color), other_match(view, reflectance)]
                another = [1 for other in others if judge_only(view, reflectance, ("another", other))]
                self.assertEqual((only == [], another == []), (paper[0] == "another", paper[0] == "only"))
                kinds.add(paper[0])
        self.assertEqual(kinds, {"only", "another"})

    def test_what_is_no_reflectance(self):
        for bad in bad_reflectances():
            for paper in (("only", 0, 1, "pass"), ("another", (HALF,) * 4), None, (), "only", ("another", bad)):
                with self.assertRaises(BadReflectance):
                    judge_only(self.view, bad, paper)

    def test_no_papers(self):
        for reflectance in ("1/2 1/2 1/2 1/2", "0 0 0 0", "1 1 1 1"):
            for paper in no_papers():
                self.assertIs(self.judge(reflectance, paper), False)


class Bright(Case):
    view = example_view()

    def judge(self, color, *paper):
        return judge_bright(self.view, quotients(color), paper)

    def test_by_hand(self):
        # The pattern (2, 3, "stop"): the bands 0 and 1 have the value 1.
        t, r = quotient("8/3"), quotients("1 1 1/3 1/3")
        self.assertIs(self.judge("1 1 2", "bright", t, r, 2, 3, "stop"), True)
        for paper in (
            (t, r, 2, 3, "pass"), (t, r, 3, 2, "stop"), (t, r, 1, 3, "stop"), (t, r, 2, 4, "stop"),
            (t, r, 0, 3, "pass"),
            (t + TINY, r, 2, 3, "stop"), (t - TINY, r, 2, 3, "stop"), (zero(), r, 2, 3, "stop"), (-t, r, 2, 3, "stop"),
            (t, quotients("1 1 1/3 1/2"), 2, 3, "stop"), (t, quotients("1 1 1/3"), 2, 3, "stop"), (t, r, 2, 3),
            (t, r, 2, 3, "stop", "stop"), (1, r, 2, 3, "stop"), (Fraction(8, 3), r, 2, 3, "stop"), (r, t, 2, 3, "stop"),
            (t, list(r), 2, 3, "stop"), (t, r, "2", "3", "stop"), (t, r, whole(2), whole(3), "stop"),
            (t, r, 2, 3, "high"), (t, r, -2, 3, "stop"), (t, r, 2, -1, "stop"), (t, r, 2, True, "stop"),
        ):
            with self.subTest(paper):
                self.assertIs(self.judge("1 1 2", "bright", *paper), False)

    def test_the_kind_and_the_sign(self):
        # Of all bands and kinds of which (0, 1, 0, 0) is the pattern, only one shows that its color is the brightest.
        band = quotients("0 1 0 0")
        told = [
            (i, j, kind)
            for (i, j), kind in product(combinations(range(4), 2), KINDS)
            if self.judge("1 1 1", "bright", one(), band, i, j, kind)
        ]
        self.assertEqual(told, [(0, 2, "pass")])
        # The pair (0, 1) has the pattern, but its determinant is 0.
        self.assertEqual(band_pattern(band), (0, 1, "pass"))

    def test_a_multiple_that_is_not_the_brightest(self):
        # (1/2, 1/2, 0, 0) is a pattern of the bands 0 and 1, but no bound stops its color there.
        self.assertIs(self.judge("1 1/2 1/2", "bright", one(), quotients("1/2 1/2 0 0"), 0, 1, "pass"), False)
        self.assertIs(self.judge("1 1/2 1/2", "bright", quotient("2"), quotients("1 1 0 0"), 0, 1, "pass"), False)
        self.assertIs(self.judge("1 1/2 1/2", "bright", quotient("2"), quotients("1 1 0 0"), 0, 2, "pass"), True)
        self.assertIs(self.judge("1 1/2 1/2", "bright", one(), quotients("1/2 1/2 0 0"), 0, 1, "stop"), False)

    def test_a_factor_that_is_not_positive(self):
        # A dark pattern has 0 times each color, and some colors are on the right side of its pair.
        for color in ("1 1 2", "0 1 0", "-1 -1 -2", "1 3 8"):
            for i, j, kind in product(range(4), range(4), KINDS):
                for t in (zero(), -TINY, -one()):
                    self.assertIs(self.judge(color, "bright", t, (zero(),) * 4, i, j, kind), False)
        self.assertIs(self.judge("-1 -1 -2", "bright", quotient("-8/3"), quotients("1 1 1/3 1/3"), 2, 3, "stop"), False)

    def test_dark_by_hand(self):
        self.assertIs(self.judge("1 0 1", "dark", 0, 3, "high"), True)
        self.assertIs(self.judge("0 1 0", "dark", 0, 1, "low"), True)
        # The bound of (0, 2) on the side of low is -2.
        self.assertEqual(str(fraction_det((1, 0, 0), (1, 2, 4), (0, 1, 0))), "-4")
        self.assertIs(self.judge("0 1 0", "dark", 0, 2, "low"), False)
        for paper in (
            (0, 3, "low"), (3, 0, "high"), (3, 0, "low"), (0, 0, "high"), (0, 2, "high"), (0, 1, "high"),
            (-1, 3, "high"), (0, -1, "high"), (0, 4, "high"), (0, 3), (0, 3, "high", 1), (0, 3, "stop"),
            (False, 3, "high"), (0, 3, None),
        ):
            with self.subTest(paper):
                self.assertIs(self.judge("1 0 1", "dark", *paper), False)

    def test_black(self):
        for view in views():
            for paper in side_papers("dark", len(view)):
                self.assertIs(judge_bright(view, black(), paper), False)
            dark = (zero(),) * len(view)
            for i, j, kind in product(range(len(view)), range(len(view)), KINDS):
                for t in (one(), TINY, whole(GREAT)):
                    self.assertIs(judge_bright(view, black(), ("bright", t, dark, i, j, kind)), False)
            with self.assertRaises(IsBlack):
                explain_bright(view, black())

    def test_all_sides_and_kinds_of_all_pairs(self):
        for view in views():
            for color in list(colors_around(view, 3, 86))[:16]:
                for paper in side_papers("dark", len(view)):
                    self.assert_judged(
                        judge_bright(view, color, paper), bright_by_the_words(view, color, paper), paper
                    )
                told = None if color == black() else brightest(view, color)
                if told is None:
                    continue
                for i, j, kind in product(range(-1, len(view) + 1), range(-1, len(view) + 1), KINDS):
                    paper = ("bright", told[0], told[1], i, j, kind)
                    self.assert_judged(
                        judge_bright(view, color, paper), bright_by_the_words(view, color, paper), paper
                    )

    def test_the_maker_and_what_is_changed_in_its_papers(self):
        for view in views():
            for color in (lit_colors(view, 1, 87) + [quotients("1 0 1"), quotients("1 2 1")]):
                paper = explain_bright(view, color)
                self.assert_forgeries_judged(
                    paper, len(view), lambda forged: judge_bright(view, color, forged),
                    lambda forged: bright_by_the_words(view, color, forged),
                )

    def test_just_one_of_the_two_kinds(self):
        kinds = set()
        for view in views():
            for color in colors_around(view, 6, 88):
                if color == black():
                    continue
                paper = explain_bright(view, color)
                self.assertIs(judge_bright(view, color, paper), True)
                told = brightest(view, color)
                dark = [other for other in side_papers("dark", len(view)) if judge_bright(view, color, other)]
                self.assertEqual((paper[0], dark == []), ("dark", False) if told is None else ("bright", True))
                if told is not None:
                    self.assertEqual((paper[1], paper[2]), told[:2])
                kinds.add(paper[0])
        self.assertEqual(kinds, {"bright", "dark"})

    def test_patterns(self):
        # What is taken tells the factor, also where several pairs and patterns fit.
        for view in views():
            for *_, reflectance in some_patterns(len(view), (zero(), HALF, one())):
                color = color_of(view, reflectance)
                if color == black():
                    continue
                paper = explain_bright(view, color)
                self.assertIs(judge_bright(view, color, paper), True)
                factor = brightest(view, color)[0]
                self.assertEqual(paper[1], factor)
                for i, j, kind in product(range(len(view)), range(len(view)), KINDS):
                    if judge_bright(view, color, ("bright", one(), reflectance, i, j, kind)):
                        self.assertEqual(factor, one())

    def test_no_papers(self):
        for color in ("1 1 2", "1 0 1", "0 0 0", "2 3 7"):
            for paper in no_papers():
                self.assertIs(judge_bright(self.view, quotients(color), paper), False)


class Lamp(Case):
    observer = Observer(EXAMPLE)
    first, second = quotients("1 0 1 0"), quotients("0 1 0 1")

    def judge(self, paper):
        return judge_lamp(self.observer, self.first, self.second, paper)

    def test_by_hand(self):
        for weights in ("8 24 24 8", "1 3 3 1", "1/3 1 1 1/3"):
            self.assertIs(self.judge(("lamp", quotients(weights))), True)
        for weights in (
            "8 24 24 9", "8 24 24", "8 24 24 8 1", "-1 -3 -3 -1", "0 0 0 0", "24 8 24 8", "1 1 1 1", "0 24 24 8",
            "-8 24 24 8",
        ):
            self.assertIs(self.judge(("lamp", quotients(weights))), False)
        for weights in ([*quotients("1 3 3 1")], (1, 3, 3, 1), ("1", "3", "3", "1"), None, 4, (1.0, 3.0, 3.0, 1.0)):
            self.assertIs(self.judge(("lamp", weights)), False)
        good = quotients("1 3 3 1")
        for paper in (
            ("lamp",), ("lamp", good, 1), ["lamp", good], ("few", good), good, ("lamp", (good,)), ("lamp",) + good,
        ):
            self.assertIs(self.judge(paper), False)

    def test_weights_of_equal_reflectances(self):
        # All positive weights do; no others, although they would match, too.
        half = (HALF,) * 4
        for weights in ("1 1 1 1", "5 1/7 3 1000000"):
            self.assertIs(judge_lamp(self.observer, half, half, ("lamp", quotients(weights))), True)
        for weights in ("1 1 1 0", "1 1 1 -1", "0 0 0 0", "1 1 1", "1 1 1 1 1"):
            self.assertIs(judge_lamp(self.observer, half, half, ("lamp", quotients(weights))), False)
        for number in range(-1, 6):
            self.assertIs(judge_lamp(self.observer, half, half, ("few", number)), False)

    def test_weights_of_0_where_the_values_are_equal(self):
        observer = Observer(curve_bands(0, 1, 2, 3, 4))
        first, second = quotients("1 0 1 0 1/2"), quotients("0 1 0 1 1/2")
        self.assertIs(judge_lamp(observer, first, second, ("lamp", quotients("1 3 3 1 1/9"))), True)
        for last in (zero(), -one(), -TINY, 1, None):
            self.assertIs(judge_lamp(observer, first, second, ("lamp", quotients("1 3 3 1") + (last,))), False)

    def test_numbers_of_crossings(self):
        observer = Observer(curve_bands(*range(7)))
        half = (HALF,) * 7
        for other, number in (
            ("1/2 1/2 1/2 1/2 1/2 1/2 1", 0), ("0 0 0 0 0 0 0", 0), ("1 1 1 0 0 0 0", 1),
            ("0 1/2 1/2 1/2 1/2 1/2 1", 1),
            ("1 0 1 1 1 1 1", 2), ("0 1/2 1/2 1 1/2 0 1/2", 2), ("1 0 1 0 0 0 0", 3), ("1 0 1 0 1 1 1", 4),
            ("1 0 1 0 1 0 0", 5), ("1 0 1 0 1 0 1", 6),
        ):
            other = quotients(other)
            self.assertEqual(crossings(half, other), number)
            told = [claim for claim in range(-1, 9) if judge_lamp(observer, half, other, ("few", claim))]
            self.assertEqual(told, [number] if number < 3 else [])
            for first, second in ((half, other), (other, half)):
                paper = explain_lamp(observer, first, second)
                self.assertEqual(paper[0], "few" if number < 3 else "lamp")
                self.assertIs(judge_lamp(observer, first, second, paper), True)
            for claim in (None, True, False, "1", whole(number), (number,), float(number), -number - 1):
                self.assertIs(judge_lamp(observer, half, other, ("few", claim)), False)

    def test_the_maker_and_what_is_changed_in_its_papers(self):
        for view in views():
            observer, half = view.observer, (HALF,) * len(view)
            zeros_and_ones = ((zero(), one()) * len(view))[:len(view)]
            for first, second in ((half, zeros_and_ones), (half, half), (half, (one(),) * len(view))):
                paper = explain_lamp(observer, first, second)
                self.assert_forgeries_judged(
                    paper, len(view), lambda forged: judge_lamp(observer, first, second, forged),
                    lambda forged: lamp_by_the_words(observer, first, second, forged),
                )

    def test_just_one_of_the_two_kinds(self):
        for view in views():
            observer, kinds = view.observer, set()
            ones = (one(),) * len(view)
            rows = zip(some_reflectances(len(view), 60, 89), some_reflectances(len(view), 60, 90))
            for first, second in list(rows) + [((HALF,) * len(view),) * 2]:
                paper = explain_lamp(observer, first, second)
                self.assertIs(judge_lamp(observer, first, second, paper), True)
                few = [number for number in range(-1, 8) if judge_lamp(observer, first, second, ("few", number))]
                weights = [ones, tuple(map(whole, view.lamp)), matching_lamp(observer, first, second)]
                lamp = [1 for other in weights if judge_lamp(observer, first, second, ("lamp", other))]
                self.assertEqual((few == [], lamp == []), (paper[0] == "lamp", paper[0] == "few"))
                kinds.add(paper[0])
            self.assertEqual(kinds, {"lamp", "few"})

    def test_matching_reflectances_cross_at_least_three_times_or_are_equal(self):
        for view in views():
            lamp = ("lamp", tuple(whole(light) for light in view.lamp))
            for reflectance in some_reflectances(len(view), 25, 91):
                color = color_of(view, reflectance)
                for other in (other_match(view, reflectance), surface_of(view, color), least_reflectance(view, color)):
                    if other is None:
                        continue
                    # The values of the lamp are weights with which they match.
                    self.assertIs(judge_lamp(view.observer, reflectance, other, lamp), True)
                    self.assertTrue(other == reflectance or crossings(reflectance, other) >= 3)

    def test_what_is_no_reflectance(self):
        good = (HALF,) * 4
        for bad in bad_reflectances():
            for paper in (("lamp", quotients("1 1 1 1")), ("few", 0), None):
                for first, second in ((bad, good), (good, bad), (bad, bad)):
                    with self.assertRaises(BadReflectance):
                        judge_lamp(self.observer, first, second, paper)

    def test_no_papers(self):
        for second in (self.second, self.first, quotients("1 1 1 1")):
            for paper in no_papers():
                self.assertIs(judge_lamp(self.observer, self.first, second, paper), False)


class End(Case):
    view = example_view()

    def judge(self, color, band, end, reflectance, reason):
        return judge_end(self.view, quotients(color), band, end, ("end", quotients(reflectance), reason))

    def test_by_hand(self):
        # (2, 3, 7) has the reflectances (1/2 + s, 1/2 - 3s, 1/2 + 3s, 1/2 - s), s from -1/6 to 1/6.
        self.assertIs(self.judge("2 3 7", 1, "greatest", "1/3 1 0 2/3", ("bound",)), True)
        self.assertIs(self.judge("2 3 7", 2, "least", "1/3 1 0 2/3", ("bound",)), True)
        self.assertIs(self.judge("2 3 7", 1, "least", "2/3 0 1 1/3", ("bound",)), True)
        # At s = -1/6 it is band 1, whose value is 1, and band 2, whose value is 0, that let band 0 go no lower.
        for band, end, reflectance, told in (
            (0, "least", "1/3 1 0 2/3", [(1, 3, "high"), (2, 3, "high")]),
            (0, "greatest", "2/3 0 1 1/3", [(1, 3, "low"), (2, 3, "low")]),
            (3, "least", "2/3 0 1 1/3", [(0, 1, "high"), (0, 2, "high")]),
            (3, "greatest", "1/3 1 0 2/3", [(0, 1, "low"), (0, 2, "low")]),
        ):
            found = []
            for i, j, side in product(range(4), range(4), SIDES):
                words = end_by_the_words(
                    self.view, quotients("2 3 7"), band, end, ("end", quotients(reflectance), (i, j, side))
                )
                taken = self.judge("2 3 7", band, end, reflectance, (i, j, side))
                self.assertEqual(taken, words)
                if taken:
                    found.append((i, j, side))
            self.assertEqual(found, told)

    def test_the_reason_bound(self):
        for band, end, reflectance, told in (
            (1, "greatest", "1/3 1 0 2/3", True), (1, "least", "1/3 1 0 2/3", False),
            (2, "least", "1/3 1 0 2/3", True), (2, "greatest", "1/3 1 0 2/3", False),
            (0, "least", "1/3 1 0 2/3", False), (3, "greatest", "1/3 1 0 2/3", False),
            (1, "least", "1/2 1/2 1/2 1/2", False), (1, "greatest", "1/2 1/2 1/2 1/2", False),
        ):
            self.assertIs(self.judge("2 3 7", band, end, reflectance, ("bound",)), told)
        for reason in (
            "bound", ["bound"], (), ("bound", "bound"), ("Bound",), (None,), (Equal(),), (("bound",),), None,
        ):
            self.assertIs(self.judge("2 3 7", 1, "greatest", "1/3 1 0 2/3", reason), False)

    def test_other_reflectances(self):
        for reflectance in ("0 1 0 0", "1/3 1 0 1/3", "1/3 1 0", "1/3 1 0 2/3 0", "0 2 -1 1", "1 1 1 1"):
            self.assertIs(self.judge("2 3 7", 1, "greatest", reflectance, ("bound",)), False)
        for color in ("2 3 8", "1 0 1", "0 0 0"):
            self.assertIs(self.judge(color, 1, "greatest", "1/3 1 0 2/3", ("bound",)), False)

    def test_each_band_and_end(self):
        for view in views():
            for color in lit_colors(view, 6, 92) + [color_of(view, (HALF,) * len(view)), black()]:
                self.check_ends(view, color)

    def check_ends(self, view, color):
        for band in range(len(view)):
            ends = band_range(view, color, band)
            for end, value in zip(ENDS, ends):
                paper = explain_end(view, color, band, end)
                self.assertIs(judge_end(view, color, band, end, paper), True)
                self.assertTrue(end_by_the_words(view, color, band, end, paper))
                self.assertEqual(paper[1][band], value)

    def test_patterns(self):
        for view in views():
            for *_, reflectance in some_patterns(len(view), (zero(), one())):
                color = color_of(view, reflectance)
                for band, end in product(range(len(view)), ENDS):
                    paper = explain_end(view, color, band, end)
                    self.assertEqual(paper[:2], ("end", reflectance))
                    self.assertIs(judge_end(view, color, band, end, paper), True)

    def test_all_reasons(self):
        # Whatever is taken tells the end of the range, whichever reflectance it has.
        taken = 0
        for view in views():
            for color in lit_colors(view, 2, 93) + [color_of(view, (HALF,) * len(view))]:
                for band, end in product(range(0, len(view), 2), ENDS):
                    known = [explain_end(view, color, band, end)[1], surface_of(view, color)]
                    value = band_range(view, color, band)[ENDS.index(end)]
                    reasons = list(product(range(len(view)), range(len(view)), SIDES)) + [("bound",)]
                    for reflectance, reason in product(known, reasons):
                        paper = ("end", reflectance, reason)
                        told = judge_end(view, color, band, end, paper)
                        self.assert_judged(told, end_by_the_words(view, color, band, end, paper), paper)
                        if told:
                            taken += 1
                            self.assertEqual(reflectance[band], value)
        self.assertGreater(taken, 100)

    def test_what_is_changed_in_the_papers_of_the_maker(self):
        for view in views():
            color = color_of(view, (HALF,) * (len(view) - 1) + (Quotient(1, 5),))
            for band, end in product((0, len(view) // 2, len(view) - 1), ENDS):
                paper = explain_end(view, color, band, end)
                self.assert_forgeries_judged(
                    paper, len(view), lambda forged: judge_end(view, color, band, end, forged),
                    lambda forged: end_by_the_words(view, color, band, end, forged),
                )

    def test_the_other_end_and_the_other_bands(self):
        for view in views():
            color = color_of(view, (HALF,) * len(view))
            for band, end in product(range(len(view)), ENDS):
                paper = explain_end(view, color, band, end)
                for other, another in product(range(len(view)), ENDS):
                    self.assert_judged(
                        judge_end(view, color, other, another, paper),
                        end_by_the_words(view, color, other, another, paper), paper,
                    )
                opposite = ENDS[1 - ENDS.index(end)]
                self.assertIs(judge_end(view, color, band, opposite, paper), False)

    def test_no_surface_color(self):
        for view in views():
            for color in some_colors(12, 94):
                for band, end in product(range(len(view)), ENDS):
                    paper = explain_end(view, color, band, end)
                    self.assertEqual(paper is None, surface_test(view, color) is not None)
                    if paper is not None:
                        self.assertIs(judge_end(view, color, band, end, paper), True)

    def test_no_papers(self):
        for color in ("2 3 7", "0 0 0", "1 0 1"):
            for end in ENDS:
                for paper in no_papers():
                    self.assertIs(judge_end(self.view, quotients(color), 1, end, paper), False)


class Makers(unittest.TestCase):
    """What a maker returns has the form that points 26 to 30 name."""

    def test_forms(self):
        for view in views():
            for color in colors_around(view, 3, 95):
                self.assert_form(explain_surface(view, color), {"surface": [tuple], "outside": [int, int, str]})
                if color != black():
                    self.assert_form(explain_bright(view, color), {
                        "bright": [Quotient, tuple, int, int, str], "dark": [int, int, str],
                    })
                if surface_test(view, color) is None:
                    for band, end in product(range(len(view)), ENDS):
                        self.assert_form(explain_end(view, color, band, end), {"end": [tuple, tuple]})
            for reflectance in some_reflectances(len(view), 10, 96):
                self.assert_form(explain_only(view, reflectance), {"only": [int, int, str], "another": [tuple]})
                paper = explain_lamp(view.observer, reflectance, (HALF,) * len(view))
                self.assert_form(paper, {"lamp": [tuple], "few": [int]})

    def assert_form(self, paper, told):
        self.assertIs(type(paper), tuple)
        self.assertEqual([type(part) for part in paper[1:]], told[paper[0]])


class Unchanged(unittest.TestCase):
    def test_no_argument_changes(self):
        view = example_view((1, 2, 3, 4))
        colors = [quotients(text) for text in ("5 10 25", "1 0 1", "1 1 1")]
        rows = [quotients(text) for text in ("1/2 1/2 1/2 1/2", "1 0 1 0", "1 1 0 0")]
        papers = [explain_surface(view, color) for color in colors] + [explain_bright(view, color) for color in colors]
        papers += [explain_only(view, row) for row in rows]
        papers += [explain_lamp(view.observer, row, rows[0]) for row in rows]
        papers += [explain_end(view, colors[0], band, end) for band, end in product(range(4), ENDS)]
        papers += [["surface", list(rows[0])], ("lamp", [whole(1)]), ("end", rows[0], ["bound"]), ["few", 1]]
        before = picture([view, colors, rows, papers])
        for paper in papers:
            for color, row in zip(colors, rows):
                judge_surface(view, color, paper)
                judge_bright(view, color, paper)
                judge_only(view, row, paper)
                judge_lamp(view.observer, row, rows[0], paper)
                judge_end(view, color, 1, "least", paper)
        for wrong in (list(rows[0]), None):
            with self.assertRaises(BadReflectance):
                judge_only(view, wrong, papers[0])
            with self.assertRaises(BadReflectance):
                judge_lamp(view.observer, rows[0], wrong, papers[0])
        self.assertEqual(picture([view, colors, rows, papers]), before)
        self.assertEqual(texts(rows[1]), "1 0 1 0")


if __name__ == "__main__":
    unittest.main()
