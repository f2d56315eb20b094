import unittest

from allstitches.sizes import Sizes
from allstitches.spans import clipped, finite, gathered, is_in, trimmed, without
from tests.things import dice, told


class TestSpans(unittest.TestCase):
    def test_gathered(self):
        self.assertEqual(told(gathered([[]], [])), ((), 0, 1, ()))
        self.assertEqual(told(gathered([[(3, None)]], [1])), ((1,), 3, 1, (0,)))
        self.assertEqual(gathered([[(0, 9)], [(4, None)]], [12]), Sizes((0, 2, 4, 5, 6, 7, 8, 9, 11, 12), 13, 2, (0,)))
        # Spans without a size of the rest tell nothing, however far out they are.
        self.assertEqual(told(gathered([[], [], [(10 ** 12, 10 ** 12)]], [])), ((), 0, 1, ()))

    def test_trimmed(self):
        self.assertEqual(trimmed([(0, 9), (11, 12), (13, None)], 1, 3), [(1, 7), (13, None)])
        self.assertEqual(trimmed([(2, 2)], 2, 3), [(2, 2)])

    def test_without(self):
        self.assertEqual(without(3, None, []), [(3, None)])
        self.assertEqual(without(3, 7, []), [(3, 7)])
        self.assertEqual(without(3, None, [(5, 5), (7, None)]), [(3, 4), (6, 6)])
        self.assertEqual(without(3, 9, [(0, 3), (9, 20), (6, 5)]), [(4, 8)])
        self.assertEqual(without(3, -1, [(1, 1)]), [])
        self.assertEqual(without(0, None, [(0, None)]), [])

    def test_finite_sets_with_any_period(self):
        # A period of 5041 is that of no set, and does not matter where all spans have an end.
        self.assertEqual(told(gathered([[(0, 6000)]] + [[]] * 5040, [3])), ((0, 3, 5041), 5042, 1, ()))
        self.assertEqual(told(finite([])), ((), 0, 1, ()))
        self.assertEqual(told(finite([2, 7])), ((2, 7), 8, 1, ()))

    def test_clipped(self):
        spans = [(0, 2), (5, 9), (12, None)]
        self.assertEqual(clipped(spans, 0, None), spans)
        self.assertEqual(clipped(spans, 2, 7), [(2, 2), (5, 7)])
        self.assertEqual(clipped(spans, 3, 4), [])
        self.assertEqual(clipped(spans, 10, 20), [(12, 20)])
        self.assertEqual(clipped(spans, 0, -1), [])
        for low in range(15):
            for high in [None] + list(range(15)):
                for size in range(20):
                    inside = low <= size and (high is None or size <= high) and is_in(spans, size)
                    self.assertEqual(is_in(clipped(spans, low, high), size), inside)

    def test_is_in(self):
        self.assertEqual([size for size in range(20) if is_in([(0, 2), (5, 9), (12, None)], size)],
                         [0, 1, 2, *range(5, 10), *range(12, 20)])
        self.assertFalse(is_in([], 0))

    def test_against_sizes(self):
        rolls = dice(80)
        for _ in range(500):
            low, high = rolls.randint(0, 9), rolls.choice([None, rolls.randint(-1, 25)])
            holes = [(rolls.randint(-4, 25), rolls.choice([None] + list(range(25)))) for _ in range(rolls.randint(0, 4))]
            found = without(low, high, holes)
            for size in range(40):
                inside = low <= size and (high is None or size <= high) and not any(
                    first <= size and (last is None or size <= last) for first, last in holes)
                among = sum(first <= size and (last is None or size <= last) for first, last in found)
                self.assertEqual(among, int(inside), (low, high, holes))


if __name__ == "__main__":
    unittest.main()
