import unittest
from fractions import Fraction
from math import gcd

from allstitches.faults import BadTable
from allstitches.grading import Grade, far_by, grade
from allstitches.lines import is_line
from tests.things import ODD_THINGS, dice

RISES = range(-9, 10)
NO_TABLES = [{}, {-1: (1, 1)}, {1001: (1, 1)}, {True: (1, 1)}, {None: (1, 1)}, {"1": (1, 1)}, {(1,): (1, 1)}, {1.0: (1, 1)},
             {1: (10001, 1)}, {1: (-10001, 1)}, {1: (1, 10001)}, {1: (1, 0)}, {1: (1, -1)}, {1: (1,)}, {1: (1, 1, 1)},
             {1: [1, 1]}, {1: 5}, {1: (True, 1)}, {1: (1, True)}, {1: (1.0, 1)}, {1: None}, {1: ("1", 1)},
             {1: (1, 1), 2: (1, 0)}, {1: (1, 1), 10 ** 20: (1, 1)}, [(1, (1, 1))], ((1, (1, 1)),), {1}] + \
    [thing for thing in ODD_THINGS if thing != {"k": 1}] + [{"k": 1}]


def gap(line, size, measure):
    return abs(line[0] + line[1] * size - Fraction(*measure))


def far(line, wanted):
    return max(gap(line, size, measure) for size, measure in wanted.items())


def least_far(wanted, rises=RISES):
    """The least distance of all lines, tried one by one."""
    return min(far((base, rise), wanted) for rise in rises for base in range(-99, 100))


def random_wanted(dice, many, most=12, wild=40):
    line = (dice.randint(-99, 99), dice.randint(-9, 9))
    wanted = {}
    for size in dice.sample(range(most), many):
        below = dice.choice([1, 1, 2, 3, 7])
        wanted[size] = ((line[0] + line[1] * size) * below + dice.randint(-wild, wild) // dice.choice([1, 5, 40]), below)
    return wanted


class TestFarBy(unittest.TestCase):
    def test_example(self):
        wanted = {0: (10, 1), 1: (13, 1), 2: (15, 1), 4: (22, 1)}
        self.assertEqual([far_by(grade(wanted).line, wanted)[0], far_by((10, 3), wanted), far_by((10, 2), wanted)],
                         [(1, 1), ((1, 1), 2), ((4, 1), 4)])

    def test_some(self):
        self.assertEqual(far_by((5, 1), {3: (8, 1)}), ((0, 1), 3))
        self.assertEqual(far_by((5, 1), {3: (17, 2), 2: (14, 2)}), ((1, 2), 3))
        self.assertEqual(far_by((5, 1), {3: (17, 2), 2: (13, 2), 9: (14, 1)}), ((1, 2), 2))
        self.assertEqual(far_by((5, 1), {9: (14, 1), 3: (16, 2), 2: (14, 2)}), ((0, 1), 2))
        self.assertEqual(far_by((5, 1), {1: (30, 9)}), ((8, 3), 1))
        self.assertEqual(far_by((0, 0), {1: (-10000, 10000), 0: (1, 1)}), ((1, 1), 0))
        self.assertEqual(far_by((0, 0), {1000: (9999, 10000), 3: (-9998, 10000)}), ((9999, 10000), 1000))
        self.assertEqual(far_by((99, 9), {1000: (-10000, 1)}), ((19099, 1), 1000))

    def test_against_fractions(self):
        random = dice(331)
        for _ in range(200):
            wanted = random_wanted(random, random.randint(1, 6))
            line = (random.randint(-99, 99), random.randint(-9, 9))
            (above, below), size = far_by(line, wanted)
            self.assertEqual((gcd(above, below), below > 0), (1, True))
            self.assertEqual(Fraction(above, below), far(line, wanted))
            self.assertEqual(size, min(one for one in wanted if gap(line, one, wanted[one]) == far(line, wanted)))


class TestGrade(unittest.TestCase):
    def check(self, wanted):
        kept = dict(wanted)
        found = grade(wanted)
        self.assertIsInstance(found, Grade)
        self.assertTrue(is_line(found.line))
        best = far(found.line, wanted)
        self.assertEqual(best, least_far(wanted))
        self.assertEqual(list(found.against), list(RISES))
        for rise, sizes in found.against.items():
            self.assertIsInstance(sizes, tuple)
            one, other = sizes
            pair = {one: wanted[one], other: wanted[other]}
            self.assertGreaterEqual(least_far(pair, [rise]), best)
        self.assertIs(found.shows(wanted), True)
        self.assertEqual(wanted, kept)
        return found

    def test_measures_on_a_line(self):
        for line in [(0, 0), (7, 3), (-99, 9), (99, -9), (99, 9), (-99, -9), (50, 1)]:
            wanted = {size: (3 * (line[0] + line[1] * size), 3) for size in (0, 2, 3, 7, 11)}
            found = self.check(wanted)
            self.assertEqual((found.line, far_by(found.line, wanted)[0]), (line, (0, 1)))

    def test_at_one_size_and_at_two(self):
        for wanted in [{0: (5, 1)}, {7: (5, 2)}, {7: (-5, 3)}, {1000: (10000, 1)}, {0: (10000, 1)}, {0: (-10000, 7)},
                       {1000: (-10000, 10000)}, {0: (5, 1), 1: (9, 1)}, {3: (5, 2), 4: (50, 3)}, {0: (0, 1), 9: (99, 2)},
                       {0: (100, 1), 1000: (-9990, 1)}, {999: (1, 2), 1000: (-1, 2)}]:
            self.check(wanted)
        self.assertEqual(self.check({7: (5, 2)}).against[3], (7, 7))

    def test_lines_at_the_limits(self):
        for wanted in [{0: (200, 1)}, {0: (-200, 1)}, {0: (99, 1), 1: (200, 1)}, {0: (0, 1), 10: (500, 1)},
                       {0: (0, 1), 10: (-500, 1)}, {5: (150, 1), 6: (-150, 1)}, {0: (101, 1), 1: (110, 1), 2: (119, 1)},
                       {0: (-101, 1), 1: (-110, 1), 2: (-120, 1)}]:
            self.check(wanted)
        self.assertEqual(self.check({0: (200, 1)}).line[0], 99)
        self.assertEqual(self.check({0: (101, 1), 1: (110, 1), 2: (119, 1)}).line, (99, 9))

    def test_near_a_line_against_trying_all(self):
        random = dice(332)
        for many in (1, 2, 3, 4, 5, 5, 5, 6, 8):
            for _ in range(6):
                self.check(random_wanted(random, many))

    def test_many_sizes(self):
        random = dice(333)
        wanted = {size: (random.randint(-10000, 10000), random.randint(1, 10000)) for size in range(1001)}
        found = grade(wanted)
        self.assertTrue(found.shows(wanted))
        best = Fraction(*far_by(found.line, wanted)[0])
        for base in range(found.line[0] - 3, found.line[0] + 4):
            for rise in (0, found.line[1]):
                if is_line((base, rise)):
                    self.assertGreaterEqual(Fraction(*far_by((base, rise), wanted)[0]), best)

    def test_what_is_not_wanted(self):
        good = grade({1: (5, 1)})
        for wanted in NO_TABLES:
            for function in (grade, good.shows, lambda wanted: far_by((5, 1), wanted)):
                with self.assertRaises(BadTable):
                    function(wanted)
        for wanted in [{0: (10000, 10000)}, {1000: (-10000, 1)}, {0: (0, 1), 1000: (0, 1)}]:
            self.check(wanted)


class TestShows(unittest.TestCase):
    def setUp(self):
        self.wanted = {0: (10, 1), 1: (13, 1), 2: (15, 1), 4: (22, 1), 5: (25, 1)}
        found = grade(self.wanted)
        self.line, self.against = found.line, found.against

    def test_other_lines(self):
        best = least_far(self.wanted)
        for base in range(0, 20):
            for rise in RISES:
                right = far((base, rise), self.wanted) == best
                self.assertIs(Grade((base, rise), self.against).shows(self.wanted), right)
        self.assertFalse(Grade((100, 0), self.against).shows(self.wanted))
        self.assertFalse(Grade((10 ** 30, 3), self.against).shows(self.wanted))
        # A line that is nearer, but no line.
        far_off = {0: (200, 1)}
        found = grade(far_off)
        self.assertTrue(Grade((99, -5), found.against).shows(far_off))
        self.assertFalse(Grade((200, 0), found.against).shows(far_off))
        self.assertFalse(Grade((100, 0), found.against).shows(far_off))
        self.assertFalse(Grade((99, 10), found.against).shows(far_off))

    def test_keys(self):
        for rise in RISES:
            less = {other: sizes for other, sizes in self.against.items() if other != rise}
            self.assertFalse(Grade(self.line, less).shows(self.wanted))
            self.assertFalse(Grade(self.line, {**less, 10: self.against[rise]}).shows(self.wanted))
            self.assertFalse(Grade(self.line, {**less, -10: self.against[rise]}).shows(self.wanted))
        self.assertFalse(Grade(self.line, {**self.against, 10: (0, 1)}).shows(self.wanted))
        self.assertFalse(Grade(self.line, {}).shows(self.wanted))
        turned = {rise: self.against[rise] for rise in list(RISES)[::-1]}
        self.assertTrue(Grade(self.line, turned).shows(self.wanted))

    def test_all_pairs_of_sizes(self):
        best = least_far(self.wanted)
        rights = set()
        for rise in (-9, 0, 2, 3, 4, 9):
            for one in self.wanted:
                for other in self.wanted:
                    pair = {one: self.wanted[one], other: self.wanted[other]}
                    right = least_far(pair, [rise]) >= best
                    rights.add(right)
                    found = Grade(self.line, {**self.against, rise: (one, other)})
                    self.assertIs(found.shows(self.wanted), right)
        self.assertEqual(rights, {True, False})

    def test_sizes_that_are_none(self):
        for sizes in [(0, 3), (3, 0), (-1, 5), (0, 10 ** 30), (0, 6), (7, 7)]:
            for rise in RISES:
                self.assertFalse(Grade(self.line, {**self.against, rise: sizes}).shows(self.wanted))

    def test_other_things_that_are_wanted(self):
        found = Grade(self.line, self.against)
        self.assertFalse(found.shows({0: (10, 1), 1: (13, 1)}))
        self.assertFalse(found.shows({**self.wanted, 3: (90, 1)}))
        self.assertTrue(found.shows({**self.wanted, 3: (19, 1)}))

    def test_what_was_given_is_copied(self):
        against = dict(self.against)
        found = Grade(self.line, against)
        against.clear()
        self.assertTrue(found.shows(self.wanted))
        spoilt = grade(self.wanted)
        spoilt.against.clear()
        self.assertEqual(grade(self.wanted).against, self.against)


if __name__ == "__main__":
    unittest.main()
