import unittest
from itertools import permutations, product

from colormatch.bench import Bench
from colormatch.errors import BadLamp, BadReflectance, ColorError, NoFilter, TooMany
from colormatch.observers import Observer, View, color_of
from colormatch.quotients import Quotient, one, whole, zero
from colormatch.reflectances import filtered
from samples import (
    BEYOND, EXAMPLE, HALF, bad_reflectances, curve_bands, example_view, picture, quotients, some_reflectances, texts,
    views, with_value,
)

GRAY = quotients("1/2 1/2 1/2 1/2")
LIKE_GRAY = quotients("1/3 1 0 2/3")
WHITE = quotients("1 1 1 1")
DARK = quotients("0 0 0 0")
RED = quotients("1 1/2 0 0")
LAMP = (1, 1, 1, 1)
OTHER_LAMP = (4, 3, 2, 1)
BAD_LAMPS = (None, [1, 1, 1, 1], (1, 1, 1), (1,) * 5, (0, 1, 1, 1), (1, 1, 1, 101), (1, 1, True, 1), "1111", 3)
BAD_VALUES = (
    None, 3, "1/2 1/2 1/2 1/2", [HALF] * 4, (HALF,) * 3, (HALF,) * 5, (1, 1, 1, 1), (one(), one(), one(), BEYOND[0]),
)


def new_bench(lamp=LAMP):
    return Bench(example_view(lamp))


def rows(many):
    """So many reflectances, each other than the others."""
    return [(Quotient(1, 2 + number), HALF, zero(), one()) for number in range(many)]


def full_bench(samples=0, filters=0):
    """A bench with so many samples and filters."""
    bench = new_bench()
    for row in rows(samples):
        bench.add_sample(row)
    for row in rows(filters):
        bench.add_filter(row)
    return bench


def changed_bench(changes):
    """A bench without samples and filters, with so many changes that can be undone."""
    bench = new_bench()
    for _ in range(changes):
        bench.set_lamp(LAMP)
    return bench


def state(bench):
    """All that can be asked of a bench."""
    return (
        bench.view, bench.view.lamp, list(bench), len(bench), bench.colors(), bench.groups(), bench.change_count,
        filter_count(bench),
    )


def filter_count(bench):
    """How many filters a bench has, counted by removing them in a trial; None if too few changes are left for it."""
    if bench.change_count > 96:
        return None
    with bench.tried() as tried:
        for count in range(4):
            try:
                tried.remove_filter()
            except NoFilter:
                return count
    return 4


def history(bench):
    """The states of a bench and of all that can be undone, from the last one on."""
    with bench.tried() as tried:
        told = [state(tried)]
        while tried.undo():
            told.append(state(tried))
    return told


class Case(unittest.TestCase):
    def assert_refused(self, bench, error, call):
        """A call raises an error and changes nothing, neither now nor behind an undo."""
        before, past = picture(bench), history(bench)
        with self.assertRaises(error) as caught:
            call()
        self.assertIs(type(caught.exception), error)
        self.assertIsInstance(caught.exception, ColorError)
        self.assertEqual(picture(bench), before)
        self.assertEqual(history(bench), past)


class New(Case):
    def test_a_new_bench(self):
        for view in views():
            bench = Bench(view)
            self.assertIs(bench.view, view)
            self.assertEqual((bench.change_count, len(bench), list(bench)), (0, 0, []))
            self.assertEqual((bench.colors(), bench.groups()), ([], []))
            self.assertIs(bench.undo(), False)
            self.assertEqual(bench.change_count, 0)

    def test_change_count_is_a_property(self):
        self.assertIsInstance(vars(Bench)["change_count"], property)
        bench = new_bench()
        for expected in range(5):
            self.assertEqual(bench.change_count, expected)
            bench.set_lamp(LAMP)

    def test_two_benches_of_one_view(self):
        view = example_view()
        first, second = Bench(view), Bench(view)
        first.add_sample(GRAY)
        first.add_filter(RED)
        first.set_lamp(OTHER_LAMP)
        self.assertEqual((len(second), second.change_count, second.view), (0, 0, view))
        self.assertEqual(view.lamp, LAMP)


class Samples(Case):
    def test_how_many_there_were_before(self):
        bench = new_bench()
        for number, row in enumerate(rows(12)):
            self.assertEqual(bench.add_sample(row), number)
            self.assertEqual((len(bench), bench.change_count), (number + 1, number + 1))
        self.assertEqual(list(bench), rows(12))

    def test_the_thirteenth(self):
        bench = full_bench(12)
        self.assert_refused(bench, TooMany, lambda: bench.add_sample(GRAY))
        bench.undo()
        self.assertEqual(bench.add_sample(GRAY), 11)
        self.assert_refused(bench, TooMany, lambda: bench.add_sample(GRAY))

    def test_equal_samples(self):
        bench = new_bench()
        for number in range(12):
            self.assertEqual(bench.add_sample(GRAY), number)

    def test_what_is_no_reflectance(self):
        for samples, changes in ((0, 0), (3, 3), (12, 12)):
            bench = full_bench(samples)
            for bad in bad_reflectances():
                self.assert_refused(bench, BadReflectance, lambda: bench.add_sample(bad))
            self.assertEqual(bench.change_count, changes)

    def test_as_many_values_as_the_view_has_bands(self):
        for view in views():
            bench = Bench(view)
            for length in (len(view) - 1, len(view) + 1, 0):
                self.assert_refused(bench, BadReflectance, lambda: bench.add_sample((HALF,) * length))
                self.assert_refused(bench, BadReflectance, lambda: bench.add_filter((HALF,) * length))
            self.assertEqual(bench.add_sample((HALF,) * len(view)), 0)
            self.assertEqual(bench.add_filter((HALF,) * len(view)), 1)


class Filters(Case):
    def test_how_many_there_are_then(self):
        bench = new_bench()
        self.assertEqual([bench.add_filter(row) for row in rows(4)], [1, 2, 3, 4])
        self.assertEqual([bench.remove_filter() for _ in range(4)], [3, 2, 1, 0])
        self.assertEqual((bench.change_count, len(bench)), (8, 0))

    def test_the_fifth(self):
        bench = full_bench(2, 4)
        self.assert_refused(bench, TooMany, lambda: bench.add_filter(GRAY))
        self.assertEqual(bench.remove_filter(), 3)
        self.assertEqual(bench.add_filter(GRAY), 4)
        self.assert_refused(bench, TooMany, lambda: bench.add_filter(GRAY))

    def test_none_to_remove(self):
        bench = full_bench(2)
        self.assert_refused(bench, NoFilter, bench.remove_filter)
        bench.add_filter(GRAY)
        self.assertEqual(bench.remove_filter(), 0)
        self.assert_refused(bench, NoFilter, bench.remove_filter)

    def test_the_last_one_is_removed(self):
        bench = new_bench()
        bench.add_sample(WHITE)
        bench.add_filter(GRAY)
        bench.add_filter(RED)
        bench.remove_filter()
        self.assertEqual(bench.colors(), [color_of(bench.view, GRAY)])

    def test_what_is_no_reflectance(self):
        for filters in (0, 4):
            bench = full_bench(1, filters)
            for bad in bad_reflectances():
                self.assert_refused(bench, BadReflectance, lambda: bench.add_filter(bad))


class Lamps(Case):
    def test_the_lamp_is_replaced(self):
        bench = full_bench(3)
        observer, first = bench.view.observer, bench.view
        self.assertIsNone(bench.set_lamp(OTHER_LAMP))
        self.assertIsInstance(bench.view, View)
        self.assertIs(bench.view.observer, observer)
        self.assertEqual((bench.view.lamp, bench.change_count), (OTHER_LAMP, 4))
        self.assertEqual((first.lamp, len(bench)), (LAMP, 3))
        self.assertEqual(bench.colors(), [color_of(example_view(OTHER_LAMP), row) for row in rows(3)])

    def test_the_same_lamp(self):
        bench = full_bench(1)
        view = bench.view
        self.assertIsNone(bench.set_lamp(LAMP))
        self.assertEqual((bench.change_count, bench.view.lamp), (2, LAMP))
        self.assertIs(bench.undo(), True)
        self.assertEqual((bench.change_count, len(bench)), (1, 1))
        self.assertIs(bench.view, view)

    def test_what_is_no_lamp(self):
        for bench in (full_bench(2, 1), changed_bench(99)):
            for bad in BAD_LAMPS:
                self.assert_refused(bench, BadLamp, lambda: bench.set_lamp(bad))


class Changes(Case):
    def test_a_hundred_and_one_more(self):
        bench = changed_bench(100)
        self.assertEqual(bench.change_count, 100)
        self.assert_refused(bench, TooMany, lambda: bench.set_lamp(LAMP))
        self.assert_refused(bench, TooMany, lambda: bench.add_sample(GRAY))
        self.assert_refused(bench, TooMany, lambda: bench.add_filter(GRAY))
        self.assertIs(bench.undo(), True)
        self.assertEqual((bench.change_count, bench.add_sample(GRAY), bench.change_count), (99, 0, 100))
        self.assert_refused(bench, TooMany, lambda: bench.set_lamp(LAMP))

    def test_each_change_can_be_the_hundredth(self):
        for change, told in (
            (lambda bench: bench.add_sample(GRAY), 1), (lambda bench: bench.add_filter(GRAY), 2),
            (lambda bench: bench.remove_filter(), 0), (lambda bench: bench.set_lamp(OTHER_LAMP), None),
        ):
            bench = new_bench()
            bench.add_sample(RED)
            bench.add_filter(RED)
            for _ in range(97):
                bench.set_lamp(LAMP)
            self.assertEqual(change(bench), told)
            self.assertEqual(bench.change_count, 100)
            for another in (
                lambda: bench.add_sample(GRAY), lambda: bench.add_filter(GRAY), lambda: bench.set_lamp(LAMP),
            ):
                self.assert_refused(bench, TooMany, another)

    def test_which_error_comes_first_with_a_hundred_changes(self):
        bench = changed_bench(100)
        self.assert_refused(bench, NoFilter, bench.remove_filter)
        for bad in BAD_LAMPS:
            self.assert_refused(bench, BadLamp, lambda: bench.set_lamp(bad))
        for bad in BAD_VALUES:
            self.assert_refused(bench, BadReflectance, lambda: bench.add_sample(bad))
            self.assert_refused(bench, BadReflectance, lambda: bench.add_filter(bad))

    def test_a_filter_to_remove_with_a_hundred_changes(self):
        bench = full_bench(0, 1)
        for _ in range(99):
            bench.set_lamp(LAMP)
        self.assert_refused(bench, TooMany, bench.remove_filter)

    def test_a_full_bench_with_a_hundred_changes(self):
        bench = full_bench(12, 4)
        for _ in range(84):
            bench.set_lamp(LAMP)
        for call in (lambda: bench.add_sample(GRAY), lambda: bench.add_filter(GRAY), bench.remove_filter):
            self.assert_refused(bench, TooMany, call)
        for bad in BAD_VALUES:
            self.assert_refused(bench, BadReflectance, lambda: bench.add_sample(bad))
            self.assert_refused(bench, BadReflectance, lambda: bench.add_filter(bad))

    def test_undo_of_each_kind_of_change(self):
        for change in (
            lambda bench: bench.add_sample(GRAY), lambda bench: bench.add_filter(RED),
            lambda bench: bench.remove_filter(), lambda bench: bench.set_lamp(OTHER_LAMP),
            lambda bench: bench.set_lamp(LAMP),
        ):
            bench = full_bench(3, 2)
            before, past = state(bench), history(bench)
            change(bench)
            self.assertEqual(bench.change_count, 6)
            self.assertEqual(history(bench)[1:], past)
            self.assertIs(bench.undo(), True)
            self.assertEqual(state(bench), before)
            self.assertEqual(history(bench), past)

    def test_undo_of_all(self):
        bench = new_bench()
        states = [state(bench)]
        for change in (
            lambda: bench.add_sample(GRAY), lambda: bench.add_filter(RED), lambda: bench.set_lamp(OTHER_LAMP),
            lambda: bench.add_sample(RED), lambda: bench.add_filter(GRAY), bench.remove_filter, bench.remove_filter,
            lambda: bench.set_lamp(OTHER_LAMP), lambda: bench.add_sample(DARK), lambda: bench.add_filter(DARK),
        ):
            change()
            states.append(state(bench))
        for expected in states[-2::-1]:
            self.assertIs(bench.undo(), True)
            self.assertEqual(state(bench), expected)
        for _ in range(3):
            self.assertIs(bench.undo(), False)
            self.assertEqual(state(bench), states[0])

    def test_undo_of_a_hundred_changes(self):
        bench = changed_bench(100)
        self.assertEqual([bench.undo() for _ in range(102)], [True] * 100 + [False] * 2)
        self.assertEqual(bench.change_count, 0)

    def test_undo_is_no_change(self):
        bench = full_bench(2)
        bench.undo()
        self.assertEqual((bench.change_count, list(bench)), (1, rows(1)))
        bench.undo()
        self.assertEqual((bench.change_count, list(bench)), (0, []))

    def test_what_raises_an_error_can_not_be_undone(self):
        bench = full_bench(1, 1)
        for call, error in (
            (lambda: bench.add_sample(None), BadReflectance), (lambda: bench.add_filter(()), BadReflectance),
            (lambda: bench.set_lamp(()), BadLamp),
        ):
            with self.assertRaises(error):
                call()
        bench.undo()
        self.assertEqual((bench.change_count, list(bench), filter_count(bench)), (1, rows(1), 0))


class Colors(Case):
    def assert_colors(self, bench, *told):
        self.assertEqual([texts(color) for color in bench.colors()], list(told))

    def test_by_hand(self):
        bench = new_bench()
        for row in (GRAY, LIKE_GRAY, WHITE, RED):
            bench.add_sample(row)
        self.assert_colors(bench, "2 3 7", "2 3 7", "4 6 14", "3/2 1/2 1/2")
        bench.add_filter(quotients("1 0 1/2 1"))
        self.assert_colors(bench, "5/4 2 11/2", "1 2 6", "5/2 4 11", "1 0 0")
        bench.add_filter(GRAY)
        self.assert_colors(bench, "5/8 1 11/4", "1/2 1 3", "5/4 2 11/2", "1/2 0 0")
        bench.set_lamp((2, 1, 1, 4))
        self.assert_colors(bench, "13/8 13/4 19/2", "5/3 4 12", "13/4 13/2 19", "1 0 0")

    def test_all_views(self):
        for view in views():
            bench = Bench(view)
            samples = list(some_reflectances(len(view), 12, 101))
            self.assertEqual(bench.add_samples(12, samples), (12, "limit"))
            expected = samples
            for number, screen in enumerate(some_reflectances(len(view), 4, 102)):
                self.assertEqual(bench.colors(), [color_of(view, row) for row in expected])
                self.assertEqual(bench.add_filter(screen), number + 1)
                expected = [filtered(row, screen) for row in expected]
            self.assertEqual(bench.colors(), [color_of(view, row) for row in expected])
            lamp = tuple(range(3, 3 + len(view)))
            bench.set_lamp(lamp)
            self.assertEqual(bench.colors(), [color_of(View(view.observer, lamp), row) for row in expected])
            self.assertEqual(list(bench), samples)

    def test_the_order_of_the_filters_does_not_matter(self):
        screens = (GRAY, LIKE_GRAY, quotients("1 1 1/5 1"), quotients("6/7 1 1 1/9"))
        told = []
        for order in permutations(screens):
            bench = full_bench(12)
            for screen in order:
                bench.add_filter(screen)
            told.append(([texts(color) for color in bench.colors()], bench.groups()))
        self.assertEqual(told, told[:1] * 24)

    def test_a_dark_filter(self):
        bench = full_bench(5, 1)
        bench.add_filter(DARK)
        self.assert_colors(bench, *["0 0 0"] * 5)
        self.assertEqual(bench.groups(), [(0, 1, 2, 3, 4)])


class Groups(Case):
    def test_by_hand(self):
        bench = new_bench()
        for row in (WHITE, GRAY, RED, LIKE_GRAY, WHITE, DARK, quotients("2/3 0 1 1/3")):
            bench.add_sample(row)
        self.assertEqual(bench.groups(), [(0, 4), (1, 3, 6), (2,), (5,)])
        # Under another lamp the three that matched differ.
        bench.set_lamp(OTHER_LAMP)
        self.assertEqual(bench.groups(), [(0, 4), (1,), (2,), (3,), (5,), (6,)])
        bench.undo()
        bench.add_filter(quotients("1 1 0 0"))
        self.assertEqual(bench.groups(), [(0, 4), (1,), (2,), (3,), (5,), (6,)])
        bench.add_filter(DARK)
        self.assertEqual(bench.groups(), [(0, 1, 2, 3, 4, 5, 6)])

    def test_kinds_of_values(self):
        bench = full_bench(3)
        self.assertEqual(bench.groups(), [(0,), (1,), (2,)])
        self.assertEqual([type(value) for value in (bench.groups(), bench.colors())], [list, list])
        self.assertEqual([type(value) for value in bench.groups() + bench.colors()], [tuple] * 6)

    def test_all_ways_to_choose_of_three(self):
        for choice in product((GRAY, LIKE_GRAY, RED), repeat=4):
            bench = new_bench()
            for row in choice:
                bench.add_sample(row)
            colors = bench.colors()
            expected = []
            for number, color in enumerate(colors):
                if color not in colors[:number]:
                    expected.append(tuple(other for other in range(4) if colors[other] == color))
            self.assertEqual(bench.groups(), expected)
            self.assertEqual(expected, sorted(expected))


class Lists(Case):
    def check(self, bench, most, values, told, added):
        before, count = list(bench), bench.change_count
        self.assertEqual(bench.add_samples(most, values), told)
        self.assertEqual(list(bench), before + added)
        self.assertEqual(bench.change_count, count + len(added))
        for _ in added:
            bench.undo()
        self.assertEqual((list(bench), bench.change_count), (before, count))

    def test_the_most_number(self):
        for many in (0, 1, 5, 12):
            for most in range(13):
                values = rows(many)
                word = "limit" if most <= many else "exhausted"
                self.check(new_bench(), most, values, (min(most, many), word), values[:most])

    def test_the_number_0(self):
        for values in ([], rows(2), [None], [GRAY, None]):
            for bench in (new_bench(), full_bench(12), changed_bench(100)):
                self.check(bench, 0, values, (0, "limit"), [])

    def test_a_wrong_value_at_each_place(self):
        for bad in BAD_VALUES:
            for at in range(5):
                values = rows(at) + [bad] + rows(4 - at)
                for most in range(13):
                    word = "limit" if most <= at else "rejected"
                    self.check(new_bench(), most, values, (min(most, at), word), values[:min(most, at)])

    def test_a_full_bench(self):
        for before in (0, 3, 11, 12):
            places = 12 - before
            self.check(full_bench(before), 12, rows(places), (places, "exhausted" if before else "limit"), rows(places))
            told = (places, "rejected" if before else "limit")
            self.check(full_bench(before), 12, rows(places + 1), told, rows(places))
            self.check(full_bench(before), places, rows(places + 1), (places, "limit"), rows(places))

    def test_few_changes_left(self):
        for left in range(6):
            bench = changed_bench(100 - left)
            self.check(bench, 12, rows(6), (left, "rejected"), rows(left))
            self.check(bench, left, rows(6), (left, "limit"), rows(left))
            self.check(bench, 12, rows(left), (left, "exhausted"), rows(left))

    def test_kinds_of_values(self):
        told = new_bench().add_samples(2, rows(1))
        self.assertEqual([type(told), type(told[0]), type(told[1])], [tuple, int, str])

    def test_each_sample_is_a_change_of_its_own(self):
        bench = new_bench()
        bench.add_samples(12, rows(3) + [None] + rows(2))
        self.assertEqual((bench.change_count, list(bench)), (3, rows(3)))
        bench.undo()
        self.assertEqual((bench.change_count, list(bench)), (2, rows(2)))

    def test_the_list_stays_as_it_is(self):
        for values in (rows(3), rows(2) + [None], rows(14), []):
            before = picture(values)
            bench = new_bench()
            bench.add_samples(12, values)
            bench.foresee(values)
            self.assertEqual(picture(values), before)
            values.clear()
            values.append(None)
            self.assertNotIn(None, list(bench))


class Trials(Case):
    def test_the_value_is_the_bench(self):
        bench = full_bench(2)
        with bench.tried() as tried:
            self.assertIs(tried, bench)

    def test_left_ordinarily(self):
        bench = full_bench(3, 2)
        before, past, view = state(bench), history(bench), bench.view
        with bench.tried() as tried:
            tried.add_sample(GRAY)
            tried.add_filter(RED)
            tried.set_lamp(OTHER_LAMP)
            tried.remove_filter()
            self.assertEqual((len(bench), bench.change_count, bench.view.lamp), (4, 9, OTHER_LAMP))
        self.assertEqual(state(bench), before)
        self.assertEqual(history(bench), past)
        self.assertIs(bench.view, view)

    def test_left_by_an_error(self):
        for error in (KeyError("x"), BadLamp("x"), TooMany("x"), StopIteration(), KeyboardInterrupt(), GeneratorExit()):
            bench = full_bench(3, 2)
            before, past = state(bench), history(bench)
            with self.assertRaises(type(error)) as caught:
                with bench.tried():
                    bench.undo()
                    bench.add_sample(GRAY)
                    raise error
            self.assertIs(caught.exception, error)
            self.assertEqual(state(bench), before)
            self.assertEqual(history(bench), past)

    def test_left_by_an_error_of_the_bench(self):
        bench = full_bench(11)
        before = state(bench)
        with self.assertRaises(TooMany):
            with bench.tried():
                bench.add_sample(GRAY)
                bench.add_sample(GRAY)
        self.assertEqual(state(bench), before)

    def test_undo_within_a_trial(self):
        bench = full_bench(3, 2)
        past = history(bench)
        with bench.tried():
            self.assertEqual([bench.undo() for _ in range(6)], [True] * 5 + [False])
            self.assertEqual((len(bench), bench.change_count), (0, 0))
        self.assertEqual(history(bench), past)
        with bench.tried():
            bench.undo()
            bench.undo()
            bench.add_sample(RED)
            bench.set_lamp(OTHER_LAMP)
        self.assertEqual(history(bench), past)
        self.assertEqual(bench.change_count, 5)

    def test_trials_within_trials(self):
        bench = full_bench(2)
        outer_past = history(bench)
        with bench.tried() as outer:
            outer.add_sample(GRAY)
            inner_past = history(bench)
            with self.assertRaises(KeyError):
                with outer.tried() as inner:
                    inner.undo()
                    inner.undo()
                    inner.set_lamp(OTHER_LAMP)
                    with inner.tried():
                        inner.add_filter(RED)
                    self.assertEqual((len(bench), bench.change_count, filter_count(bench)), (1, 2, 0))
                    raise KeyError("x")
            self.assertEqual(history(bench), inner_past)
        self.assertEqual(history(bench), outer_past)

    def test_as_it_was_when_the_trial_was_made(self):
        bench = full_bench(2)
        past = history(bench)
        trial = bench.tried()
        bench.add_sample(GRAY)
        bench.set_lamp(OTHER_LAMP)
        with trial as tried:
            self.assertIs(tried, bench)
            self.assertEqual((len(bench), bench.view.lamp), (3, OTHER_LAMP))
            bench.add_filter(RED)
        self.assertEqual(history(bench), past)

    def test_a_trial_that_is_not_used(self):
        bench = full_bench(2)
        bench.tried()
        bench.add_sample(GRAY)
        self.assertEqual((len(bench), bench.change_count), (3, 3))

    def test_with_a_hundred_changes(self):
        bench = changed_bench(100)
        with bench.tried():
            self.assertRaises(TooMany, bench.add_sample, GRAY)
            bench.undo()
            self.assertEqual(bench.add_sample(GRAY), 0)
        self.assertEqual((len(bench), bench.change_count), (0, 100))

    def test_two_benches(self):
        first, second = full_bench(1), full_bench(2)
        with first.tried(), second.tried():
            first.add_sample(GRAY)
            second.undo()
            self.assertEqual((len(first), len(second)), (2, 1))
        self.assertEqual((len(first), len(second)), (1, 2))


class Foreseeing(Case):
    def check(self, bench, values, told):
        before, past = picture(bench), history(bench)
        self.assertEqual(bench.foresee(values), told)
        self.assertEqual(picture(bench), before)
        self.assertEqual(history(bench), past)
        # It is what adding gives then.
        self.assertEqual(bench.add_samples(12, values), told)

    def test_few_places_left(self):
        for before in range(13):
            for many in range(14):
                places = 12 - before
                if before == 0 and many >= 12:
                    told = (12, "limit")
                else:
                    told = (min(places, many), "exhausted" if many <= places else "rejected")
                self.check(full_bench(before), rows(many), told)

    def test_wrong_values(self):
        for bad in BAD_VALUES:
            for at in range(4):
                self.check(full_bench(2), rows(at) + [bad] + rows(3), (at, "rejected"))
        self.check(new_bench(), rows(12) + [None], (12, "limit"))

    def test_few_changes_left(self):
        for left in (0, 1, 2, 5):
            self.check(changed_bench(100 - left), rows(left + 1), (left, "rejected"))
            self.check(changed_bench(100 - left), rows(left), (left, "exhausted"))
        self.check(changed_bench(100), [], (0, "exhausted"))
        self.check(changed_bench(100), [None], (0, "rejected"))

    def test_no_values(self):
        self.check(new_bench(), [], (0, "exhausted"))
        self.check(full_bench(12), [], (0, "exhausted"))
        self.check(full_bench(12), [GRAY], (0, "rejected"))

    def test_within_a_trial(self):
        bench = full_bench(10)
        with bench.tried():
            bench.undo()
            self.assertEqual(bench.foresee(rows(4)), (3, "rejected"))
            self.assertEqual((len(bench), bench.change_count), (9, 9))
        self.assertEqual((len(bench), bench.change_count), (10, 10))


class Iteration(Case):
    def test_the_samples_in_order(self):
        bench = full_bench(7, 2)
        self.assertEqual(list(bench), rows(7))
        self.assertEqual([row for row in bench], rows(7))
        self.assertEqual((len(bench), tuple(bench)), (7, tuple(rows(7))))
        self.assertEqual(list(zip(bench, bench)), list(zip(rows(7), rows(7))))

    def test_a_bench_that_changes_meanwhile(self):
        bench = full_bench(3)
        told = []
        for row in bench:
            told.append(row)
            bench.add_sample(GRAY)
        self.assertEqual((told, len(bench)), (rows(3), 6))


class Unchanged(Case):
    def test_what_a_bench_returns_can_be_changed(self):
        bench = full_bench(4, 1)
        before, past = picture(bench), history(bench)
        for told in (bench.colors(), bench.groups(), list(bench)):
            told[0] = None
            told.clear()
        self.assertEqual(picture(bench), before)
        self.assertEqual(history(bench), past)
        self.assertEqual((len(bench.colors()), len(bench.groups())), (4, 4))
        self.assertIsNot(bench.colors(), bench.colors())
        self.assertIsNot(bench.groups(), bench.groups())

    def test_asking_changes_nothing(self):
        bench = full_bench(4, 1)
        before = picture(bench)
        for _ in range(2):
            bench.colors()
            bench.groups()
            bench.foresee(rows(3))
            bench.tried()
            list(bench)
            len(bench)
            self.assertEqual(bench.change_count, 5)
        self.assertEqual(picture(bench), before)

    def test_no_argument_changes(self):
        view = View(Observer(curve_bands(0, 1, 2, 4, 9)), (1, 2, 3, 4, 5))
        sample, screen, lamp = quotients("1 1/2 1/3 0 1"), quotients("1/2 1 1 1 0"), (9, 8, 7, 6, 5)
        wrong = [list(sample), list(lamp), with_value(sample, 2, whole(2))]
        before = picture([view, sample, screen, lamp, wrong])
        bench = Bench(view)
        bench.add_sample(sample)
        bench.add_filter(screen)
        bench.set_lamp(lamp)
        bench.colors()
        bench.remove_filter()
        bench.undo()
        for call, error in (
            (lambda: bench.add_sample(wrong[0]), BadReflectance), (lambda: bench.add_filter(wrong[2]), BadReflectance),
            (lambda: bench.set_lamp(wrong[1]), BadLamp),
        ):
            with self.assertRaises(error):
                call()
        self.assertEqual(picture([view, sample, screen, lamp, wrong]), before)
        self.assertEqual((view.lamp, example_view().observer.bands), ((1, 2, 3, 4, 5), EXAMPLE))


if __name__ == "__main__":
    unittest.main()
