import unittest

from allstitches.sizes import Sizes
from allstitches.spans import gathered, trimmed, without
from tests.things import dice, told


class TestSpans(unittest.TestCase):
    def test_gathered(self):
        self.assertEqual(told(gathered([[]], [])), ((), 0, 1, ()))
        self.assertEqual(told(gathered([[(3, None)]], [1])), ((1,), 3, 1, (0,)))
        self.assertEqual(gathered([[(0, 9)], [(4, None)]], [12]), Sizes((0, 2, 4, 5, 6, 7, 8, 9, 11, 12), 13, 2, (0,)))
        # Spans without a size of the rest tell nothing, however far out they are.
        self.assertEqual(told(gathered([[], [], [(10 ** 12, 10 ** 12)]], [])), ((), 0, 1, ()))

    def test_trimmed(self):
        self.assertEqual(trimmed([(0, 9), (11, 12), (13, None)], 1, 3), [(1, 7), (13, None)])
        self.assertEqual(trimmed([(2, 2)], 2, 3), [(2, 2)])

    def test_without(self):
        self.assertEqual(without(3, None, []), [(3, None)])
        self.assertEqual(without(3, 7, []), [(3, 7)])
        self.assertEqual(without(3, None, [(5, 5), (7, None)]), [(3, 4), (6, 6)])
        self.assertEqual(without(3, 9, [(0, 3), (9, 20), (6, 5)]), [(4, 8)])
        self.assertEqual(without(3, -1, [(1, 1)]), [])
        self.assertEqual(without(0, None, [(0, None)]), [])

    def test_against_sizes(self):
        rolls = dice(80)
        for _ in range(500):
            low, high = rolls.randint(0, 9), rolls.choice([None, rolls.randint(-1, 25)])
            holes = [(rolls.randint(-4, 25), rolls.choice([None] + list(range(25)))) for _ in range(rolls.randint(0, 4))]
            found = without(low, high, holes)
            for size in range(40):
                inside = low <= size and (high is None or size <= high) and not any(
                    first <= size and (last is None or size <= last) for first, last in holes)
                among = sum(first <= size and (last is None or size <= last) for first, last in found)
                self.assertEqual(among, int(inside), (low, high, holes))


if __name__ == "__main__":
    unittest.main()
