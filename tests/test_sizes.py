import itertools
import unittest

from allstitches.errors import BadSizes
from allstitches.sizes import Sizes
from tests.things import ODD_THINGS, dice

ALL = Sizes((), 0, 1, (0,))
NONE = Sizes((), 0, 1, ())


def told(sizes):
    return (sizes.early, sizes.start, sizes.period, sizes.later)


def members(early, start, period, later, end=200):
    """The sizes below an end that a form tells, by the words of [5]."""
    return [size for size in range(end)
            if (size in early if size < start else (size - start) % period in later)]


def random_form(rolls):
    start = rolls.randint(0, 8)
    period = rolls.choice([1, 1, 2, 3, 4, 6, 6, 8])
    early = tuple(size for size in range(start) if rolls.random() < 0.5)
    later = tuple(rest for rest in range(period) if rolls.random() < 0.5)
    return early, start, period, later


class TestLeastForm(unittest.TestCase):
    def test_forms_that_are_least_stay(self):
        for form in [((), 0, 1, ()), ((), 0, 1, (0,)), ((3,), 4, 1, ()), ((), 4, 1, (0,)), ((0, 2), 4, 3, (0, 2)),
                     ((), 0, 5040, (0,))]:
            self.assertEqual(told(Sizes(*form)), form)

    def test_forms_that_are_not_least(self):
        self.assertEqual(told(Sizes((0, 2), 4, 4, (0, 2))), ((), 0, 2, (0,)))
        self.assertEqual(told(Sizes((1, 2, 3), 4, 2, (0, 1))), ((), 1, 1, (0,)))
        self.assertEqual(told(Sizes((3,), 4, 6, ())), ((3,), 4, 1, ()))
        self.assertEqual(told(Sizes((), 9, 7, ())), ((), 0, 1, ()))
        self.assertEqual(told(Sizes((), 3, 2, (1,))), ((), 3, 2, (1,)))
        self.assertEqual(told(Sizes((), 2, 3, (2,))), ((), 2, 3, (2,)))
        self.assertEqual(told(Sizes((), 1, 3, (2,))), ((), 1, 3, (2,)))
        self.assertEqual(told(Sizes((0,), 1, 3, (2,))), ((), 0, 3, (0,)))
        self.assertEqual(told(Sizes((0, 1), 2, 5040, tuple(range(0, 5040, 2)))), ((0, 1), 2, 2, (0,)))
        self.assertEqual(told(Sizes((0,), 2, 5040, tuple(range(0, 5040, 2)))), ((), 0, 2, (0,)))
        self.assertEqual(told(Sizes((0, 2), 4, 3, (0, 1))), ((0,), 2, 3, (0, 2)))

    def test_the_form_by_its_definition(self):
        rolls = dice(1)
        for _ in range(400):
            form = random_form(rolls)
            sizes = Sizes(*form)
            listed = members(*form)
            self.assertEqual(members(*told(sizes)), listed)
            # No less period and no less start tell the set.
            flags = [size in listed for size in range(200)]
            repeats = [period for period in range(1, 9) if flags[20:190] == flags[20 + period:190 + period]]
            self.assertEqual(sizes.period, repeats[0])
            starts = [start for start in range(20)
                      if flags[start:190] == flags[start + sizes.period:190 + sizes.period]]
            self.assertEqual(sizes.start, starts[0])
            self.assertEqual(list(sizes.early), [size for size in listed if size < sizes.start])

    def test_equality(self):
        self.assertEqual(Sizes((), 0, 2, (0,)), Sizes((0, 2), 4, 6, (0, 2, 4)))
        self.assertTrue(Sizes((), 0, 2, (0,)) != Sizes((), 0, 2, (1,)))
        self.assertNotEqual(Sizes((1,), 2, 1, ()), Sizes((0,), 1, 1, ()))
        self.assertNotEqual(Sizes((0,), 2, 1, ()), Sizes((0,), 2, 1, (0,)))
        self.assertNotEqual(Sizes((), 0, 2, (0,)), Sizes((), 0, 4, (0,)))
        self.assertFalse(ALL == ((), 0, 1, (0,)))
        self.assertFalse(NONE == None)  # noqa: E711

    def test_equal_only_if_the_same(self):
        rolls = dice(2)
        forms = [random_form(rolls) for _ in range(60)]
        for one, other in itertools.product(forms, forms):
            self.assertEqual(Sizes(*one) == Sizes(*other), members(*one) == members(*other))


class TestWrongForms(unittest.TestCase):
    def refused(self, *form):
        with self.assertRaises(BadSizes, msg=form):
            Sizes(*form)

    def test_starts(self):
        for start in [-1, True, False, None, 1.0, "0", (0,)]:
            self.refused((), start, 1, ())

    def test_periods(self):
        for period in [0, -1, 5041, 10080, True, None, 2.0, "1"]:
            self.refused((), 0, period, ())
        self.assertEqual(Sizes((), 0, 5040, (5039,)).period, 5040)

    def test_early(self):
        wrong = [[], [0], None, (3,), (-1,), (1, 0), (0, 0), (True,), (0, True), (0.0,), ("0",), (0, None), "0", 0,
                 range(2), {0}, {}]
        for early in wrong:
            self.refused(early, 3, 1, ())

    def test_later(self):
        wrong = [[], [0], None, (4,), (-1,), (1, 0), (2, 2), (True,), (False,), (0.0,), ("0",), "0", 0, range(2), {0}]
        for later in wrong:
            self.refused((), 3, 4, later)

    def test_no_early_size_fits_a_start_of_0(self):
        self.refused((0,), 0, 1, ())
        self.refused((), 0, 1, (1,))

    def test_several_errors(self):
        self.refused([], -1, 0, [])


class TestMembers(unittest.TestCase):
    def test_contains(self):
        sizes = Sizes((1, 4), 6, 4, (1, 2))
        self.assertEqual([size for size in range(20) if size in sizes], [1, 4, 7, 8, 11, 12, 15, 16, 19])
        self.assertTrue(10 ** 40 + 3 in sizes)
        self.assertFalse(10 ** 40 + 2 in sizes)

    def test_no_sizes_are_in_no_set(self):
        for thing in ODD_THINGS + [-2, (0,), "0", [0], 0.0, 3.0]:
            self.assertIs(thing in ALL, False, thing)

    def test_bool(self):
        self.assertIs(bool(NONE), False)
        for sizes in [ALL, Sizes((7,), 8, 1, ()), Sizes((), 9, 5, (4,))]:
            self.assertIs(bool(sizes), True)

    def test_many(self):
        self.assertEqual(NONE.many, 0)
        self.assertEqual(Sizes((2, 5, 7), 9, 3, ()).many, 3)
        self.assertIsNone(Sizes((2, 5, 7), 9, 3, (0,)).many)
        self.assertIsNone(ALL.many)

    def test_least(self):
        self.assertIsNone(NONE.least())
        self.assertEqual(ALL.least(), 0)
        self.assertEqual(Sizes((2, 5), 9, 3, (0,)).least(), 2)
        self.assertEqual(Sizes((), 9, 3, (2,)).least(), 11)
        self.assertEqual(Sizes((), 9, 4, (2, 3)).least(), 11)

    def test_first(self):
        sizes = Sizes((2, 5), 9, 4, (1, 2))
        self.assertEqual(sizes.first(0), [])
        self.assertEqual(sizes.first(1), [2])
        self.assertEqual(sizes.first(2), [2, 5])
        self.assertEqual(sizes.first(7), [2, 5, 10, 11, 14, 15, 18])
        self.assertEqual(Sizes((2, 5), 6, 1, ()).first(7), [2, 5])
        self.assertEqual(Sizes((2, 5), 6, 1, ()).first(1), [2])
        self.assertEqual(NONE.first(3), [])
        self.assertEqual(ALL.first(3), [0, 1, 2])

    def test_first_is_new(self):
        sizes = Sizes((2, 5), 6, 1, ())
        sizes.first(2).append(9)
        self.assertEqual(sizes.first(9), [2, 5])


class TestOperators(unittest.TestCase):
    def test_each_of_many(self):
        rolls = dice(3)
        for _ in range(300):
            one, other = random_form(rolls), random_form(rolls)
            mine, yours = members(*one), members(*other)
            this, that = Sizes(*one), Sizes(*other)
            before = told(this), told(that)
            self.assertEqual(members(*told(this & that)), [size for size in mine if size in yours])
            self.assertEqual(members(*told(this | that)), sorted(set(mine) | set(yours)))
            self.assertEqual(members(*told(this - that)), [size for size in mine if size not in yours])
            self.assertEqual(members(*told(~this)), [size for size in range(200) if size not in mine])
            self.assertEqual(this.within(that), all(size in yours for size in mine))
            self.assertEqual((told(this), told(that)), before)

    def test_results_are_least_forms(self):
        self.assertEqual(told(Sizes((), 0, 2, (0,)) | Sizes((), 0, 2, (1,))), ((), 0, 1, (0,)))
        self.assertEqual(told(Sizes((), 5, 4, (0,)) & Sizes((), 0, 6, (0,))), ((), 0, 1, ()))
        self.assertEqual(told(Sizes((), 0, 6, (1,)) - Sizes((), 9, 4, (0,))), ((1,), 2, 12, (5,)))
        self.assertEqual(told(~ALL), ((), 0, 1, ()))
        self.assertEqual(told(~NONE), ((), 0, 1, (0,)))

    def test_within(self):
        self.assertIs(NONE.within(NONE), True)
        self.assertIs(ALL.within(ALL), True)
        self.assertIs(Sizes((), 0, 4, (2,)).within(Sizes((), 0, 2, (0,))), True)
        self.assertIs(Sizes((), 0, 2, (0,)).within(Sizes((), 0, 4, (2,))), False)

    def test_periods_together_above_5040(self):
        one, other = Sizes((), 0, 64, (0,)), Sizes((), 0, 81, (0,))
        for deed in (lambda: one & other, lambda: one | other, lambda: one - other, lambda: one.within(other)):
            with self.assertRaises(BadSizes):
                deed()
        self.assertEqual(told(one), ((), 0, 64, (0,)))

    def test_periods_together_of_5040(self):
        one, other = Sizes((), 0, 63, (0,)), Sizes((), 0, 80, (0,))
        self.assertEqual(told(one & other), ((), 0, 5040, (0,)))
        self.assertEqual((one | other).period, 5040)
        with self.assertRaises(BadSizes):
            other & Sizes((), 0, 81, (0,))
        with self.assertRaises(BadSizes):
            Sizes((), 0, 71, (0,)) | Sizes((), 0, 71, (0,)) - Sizes((), 0, 72, (0,))

    def test_least_periods_count(self):
        # Told with a period of 5040, but all sizes have the least period 1.
        self.assertEqual(Sizes((), 0, 5040, tuple(range(5040))) & Sizes((), 0, 11, (3,)), Sizes((), 0, 11, (3,)))

    def test_great_starts(self):
        late = Sizes((99_999,), 100_000, 2, (1,))
        early = Sizes(tuple(range(0, 100_000, 3)), 100_000, 1, ())
        self.assertEqual((late & early).first(9), [99_999])
        self.assertEqual((late | early).first(2), [0, 3])
        self.assertEqual(told(late - late), told(NONE))

    def test_example(self):
        found = Sizes((), 0, 2, (1,)) & ~Sizes((1, 3), 4, 1, ())
        self.assertEqual([found.early, found.start, found.period, found.later, found.first(3), found.many, 7 in found],
                         [(), 4, 2, (1,), [5, 7, 9], None, True])


if __name__ == "__main__":
    unittest.main()
