import unittest

from allstitches.lines import Ratio, is_line
from tests.things import ODD_THINGS


class TestLines(unittest.TestCase):
    def test_is_line(self):
        for line in [(0, 0), (99, 9), (-99, -9), (99, -9), (-99, 9), (6, 4)]:
            self.assertIs(is_line(line), True, line)

    def test_beyond_the_limits(self):
        for line in [(100, 0), (-100, 0), (0, 10), (0, -10), (100, 10), (10 ** 30, 0)]:
            self.assertIs(is_line(line), False, line)

    def test_is_line_for_any_thing(self):
        for thing in ODD_THINGS:
            self.assertIs(is_line(thing), False, thing)
        for thing in [[0, 0], (0,), (0, 0, 0), (True, 0), (0, False), (0.0, 0), (0, 1.0), ("0", 0), (0, None), ((), 0),
                      ((0, 0),), (0, [0])]:
            self.assertIs(is_line(thing), False, thing)


class TestRatio(unittest.TestCase):
    def told(self, ratio):
        return (ratio.base, ratio.rise, ratio.below)

    def test_lowest_terms(self):
        self.assertEqual(self.told(Ratio(6, 4, 2)), (3, 2, 1))
        self.assertEqual(self.told(Ratio(6, 4, 3)), (6, 4, 3))
        self.assertEqual(self.told(Ratio(-6, 9, 12)), (-2, 3, 4))
        self.assertEqual(self.told(Ratio(0, 0, 12)), (0, 0, 1))
        self.assertEqual(self.told(Ratio(0, 3, 12)), (0, 1, 4))

    def test_at_rounds_down(self):
        self.assertEqual([Ratio(1, 2, 3).at(size) for size in range(5)], [0, 1, 1, 2, 3])
        self.assertEqual([Ratio(1, -2, 3).at(size) for size in range(5)], [0, -1, -1, -2, -3])
        self.assertEqual(Ratio(1, 1, 2).at(10 ** 30), 5 * 10 ** 29)

    def test_objects_are_not_equal(self):
        self.assertNotEqual(Ratio(1, 2, 3), Ratio(1, 2, 3))


if __name__ == "__main__":
    unittest.main()
