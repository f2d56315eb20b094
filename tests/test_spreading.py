import itertools
import unittest

from allstitches.errors import BadPiece, BadRow
from allstitches.faults import BadGaps
from allstitches.pieces import Piece
from allstitches.spreading import Even, Uneven, judge_spread, schedule, shaped, spread
from tests.things import BO, K, KFB, ODD_THINGS, TOG, YO, dice, part, row

PLAIN = row([], [K])
MORE = row([YO], [K])
NO_NUMBERS = [10001, 10 ** 30, -1, -10 ** 30] + ODD_THINGS
NO_GAPS = [[], [1] * 61, [1, 10001], [1, -1], [1, True], [False], [1, None], [[1]], (1, 2), range(3), {1: 2}, "11",
           [1.0], ["1"], None, 5] + [thing for thing in ODD_THINGS if thing != [1, 2]]


def sums(gaps, width):
    """The sums of all stretches with so many gaps of a ring."""
    ends = [0, *itertools.accumulate(gaps + gaps)]
    return [ends[first + width] - ends[first] for first in range(len(gaps))]


def are_even(gaps):
    return all(max(sums(gaps, width)) - min(sums(gaps, width)) <= 1 for width in range(1, len(gaps) + 1))


def shows_even(gaps, shift):
    """Whether gaps are the spread ones from a shift on, by the words of [23]."""
    many, total = len(gaps), sum(gaps)
    told = [(k + 1) * total // many - k * total // many for k in range(many)]
    return all(gap == told[(shift + k) % many] for k, gap in enumerate(gaps))


class TestSpread(unittest.TestCase):
    def test_example(self):
        self.assertEqual([spread(7, 3), judge_spread([3, 2, 2]).shift, judge_spread([3, 1, 3]).width, schedule(20, 6)],
                         [[2, 2, 3], 2, 1, [(3, 4), (4, 2)]])

    def test_all_small_ones(self):
        for total in range(40):
            for parts in range(1, 20):
                gaps = spread(total, parts)
                self.assertEqual(gaps, [(k + 1) * total // parts - k * total // parts for k in range(parts)])
                self.assertEqual((len(gaps), sum(gaps)), (parts, total))
                self.assertTrue(are_even(gaps))

    def test_limits(self):
        self.assertEqual(spread(0, 1), [0])
        self.assertEqual(spread(0, 60), [0] * 60)
        self.assertEqual(spread(10000, 1), [10000])
        self.assertEqual(sum(spread(10000, 60)), 10000)
        self.assertEqual(sorted(set(spread(10000, 60))), [166, 167])
        for number in NO_NUMBERS:
            with self.assertRaises(BadGaps):
                spread(number, 5)
        for number in [0, 61] + NO_NUMBERS:
            with self.assertRaises(BadGaps):
                spread(5, number)


class TestJudgeSpread(unittest.TestCase):
    def check(self, gaps):
        found = judge_spread(gaps)
        if are_even(gaps):
            self.assertIsInstance(found, Even)
            self.assertIs(bool(found), True)
            self.assertTrue(shows_even(gaps, found.shift))
        else:
            self.assertIsInstance(found, Uneven)
            self.assertIs(bool(found), False)
            here, there = sums(gaps, found.width)[found.one], sums(gaps, found.width)[found.other]
            self.assertGreaterEqual(here - there, 2)
        self.assertIs(found.shows(gaps), True)
        return found

    def test_all_short_rings(self):
        for many in range(1, 7):
            for gaps in itertools.product(range(4 if many < 6 else 3), repeat=many):
                self.check(list(gaps))

    def test_even_ones_turned_each_way(self):
        for total in (0, 1, 5, 12, 31, 34, 60, 100, 9999, 10000):
            for parts in (1, 2, 3, 7, 12, 17, 59, 60):
                gaps = spread(total, parts)
                for turn in range(parts):
                    self.assertIsInstance(self.check(gaps[turn:] + gaps[:turn]), Even)

    def test_one_loop_moved(self):
        random = dice(231)
        unevens = 0
        for _ in range(300):
            gaps = spread(random.randint(0, 200), random.randint(2, 30))
            here, there = random.sample(range(len(gaps)), 2)
            if gaps[here] > 0:
                gaps[here] -= 1
                gaps[there] += 1
                unevens += not self.check(gaps)
        self.assertGreater(unevens, 100)

    def test_widths_above_1(self):
        self.assertEqual(judge_spread([1, 1, 2, 2]).width, 2)
        self.assertEqual(judge_spread([2, 2, 1, 2, 1, 1]).width, 2)
        self.assertEqual(judge_spread([1, 2, 1, 2, 2, 1, 2, 1, 2, 1, 2, 2, 1, 2, 2]).width, 5)

    def test_single_gaps_and_great_ones(self):
        self.assertEqual(judge_spread([7]).shift, 0)
        self.assertEqual(judge_spread([10000]).shift, 0)
        self.check([10000] * 60)
        self.check([10000, 9999])
        self.check([10000] * 30 + [0] * 30)

    def test_wrong_gaps(self):
        for gaps in NO_GAPS:
            for function in (judge_spread, Even(0).shows, Uneven(0, 0, 1).shows, Even(0).shows):
                with self.assertRaises(BadGaps):
                    function(gaps)


class TestShows(unittest.TestCase):
    def test_shifts(self):
        for total, parts in [(7, 3), (12, 4), (31, 12), (5, 1), (0, 3), (100, 60)]:
            gaps = spread(total, parts)
            gaps = gaps[1:] + gaps[:1]
            for shift in list(range(-130, 130)) + [10 ** 30, -10 ** 30]:
                self.assertIs(Even(shift).shows(gaps), shows_even(gaps, shift))
        for shift in range(-5, 5):
            self.assertFalse(Even(shift).shows([3, 1, 3]))
            self.assertFalse(Even(shift).shows([1, 1, 2, 2]))

    def test_stretches(self):
        random = dice(232)
        for _ in range(60):
            gaps = [random.randint(0, 3) for _ in range(random.randint(1, 7))]
            for one, other in itertools.product(range(len(gaps)), repeat=2):
                for width in range(1, len(gaps)):
                    right = sums(gaps, width)[one] - sums(gaps, width)[other] >= 2
                    self.assertIs(Uneven(one, other, width).shows(gaps), right)

    def test_what_are_no_gaps_or_widths(self):
        gaps = [3, 1, 3, 0]
        self.assertTrue(Uneven(0, 1, 1).shows(gaps))
        self.assertTrue(Uneven(2, 3, 1).shows(gaps))
        for one, other, width in [(0, 1, 0), (0, 1, -1), (0, 0, 1), (1, 0, 1), (4, 1, 1), (-4, 1, 1), (-1, 1, 1),
                                  (0, 5, 1), (0, -3, 1), (0, 1, 4), (0, 1, 5), (0, 1, 10 ** 30), (10 ** 30, 1, 1),
                                  (0, 2, 1), (3, 0, 1), (0, 3, 4)]:
            self.assertIs(Uneven(one, other, width).shows(gaps), False)
        self.assertTrue(Uneven(1, 0, 1).shows([0, 3, 1, 3]))
        for one, other in [(1, 4), (1, -4), (1, -1), (5, 0), (-3, 0)]:
            self.assertIs(Uneven(one, other, 1).shows([0, 3, 1, 3]), False)
        self.assertIs(Uneven(0, -1, 1).shows(gaps), False)
        # Even gaps have none.
        gaps = spread(31, 12)
        for one, other, width in itertools.product(range(12), range(12), range(13)):
            self.assertIs(Uneven(one, other, width).shows(gaps), False)

    def test_other_gaps(self):
        found = judge_spread([3, 2, 2])
        self.assertEqual([found.shows(gaps) for gaps in ([2, 3, 2], [3, 2, 2, 2], [4, 3, 3], [3], [3, 1, 3])],
                         [False, False, True, True, False])

    def test_the_gaps_stay_as_they_are(self):
        gaps = [3, 1, 3]
        found = judge_spread(gaps)
        found.shows(gaps)
        self.assertEqual(gaps, [3, 1, 3])
        gaps[0] = 1
        self.assertFalse(found.shows(gaps))


class TestSchedule(unittest.TestCase):
    def test_all_small_ones(self):
        for rows in range(1, 40):
            for times in range(1, rows + 1):
                found = schedule(rows, times)
                self.assertEqual(sum(many for _, many in found), times)
                self.assertEqual(sum(gap * many for gap, many in found), rows)
                gaps = spread(rows, times) if times <= 60 else []
                self.assertEqual(found, sorted((gap, gaps.count(gap)) for gap in set(gaps)))

    def test_multiples_and_limits(self):
        self.assertEqual(schedule(20, 5), [(4, 5)])
        self.assertEqual(schedule(5, 5), [(1, 5)])
        self.assertEqual(schedule(6, 5), [(1, 4), (2, 1)])
        self.assertEqual(schedule(1, 1), [(1, 1)])
        self.assertEqual(schedule(10000, 1), [(10000, 1)])
        self.assertEqual(schedule(10000, 10000), [(1, 10000)])
        self.assertEqual(schedule(10000, 9999), [(1, 9998), (2, 1)])
        self.assertEqual(schedule(9999, 61), [(163, 5), (164, 56)])

    def test_wrong_numbers(self):
        for rows, times in [(5, 6), (5, 0), (0, 0), (10001, 5), (10001, 10001), (5, -1), (-5, -6), (0, 1)]:
            with self.assertRaises(BadGaps):
                schedule(rows, times)
        for thing in ODD_THINGS:
            for numbers in [(thing, 1), (5, thing), (thing, thing)]:
                with self.assertRaises(BadGaps):
                    schedule(*numbers)


class TestShaped(unittest.TestCase):
    def check(self, gaps, *parts, plain=PLAIN, change=MORE):
        found = shaped("flat", (4, 1), plain, change, gaps)
        self.assertIsInstance(found, Piece)
        self.assertEqual((found.way, found.cast, found.parts), ("flat", (4, 1), parts))

    def test_gaps_of_0_1_2_and_more(self):
        change, plain = ("row", MORE), ("row", PLAIN)
        self.check([0])
        self.check([0, 0, 0])
        self.check([1], change)
        self.check([2], plain, change)
        self.check([3], ("block", (2, 0), (PLAIN,)), change)
        self.check([0, 3, 1, 0, 2], ("block", (2, 0), (PLAIN,)), change, change, plain, change)
        self.check([100], ("block", (99, 0), (PLAIN,)), change)

    def test_plain_rows_whose_group_does_not_make_what_it_takes(self):
        for group in ([TOG], [KFB], [K, BO], [K, YO]):
            plain = row([], group)
            self.check([3, 1, 2], *[("row", plain)] * 2, ("row", MORE), ("row", MORE), ("row", plain), ("row", MORE),
                       plain=plain)

    def test_groups_that_make_what_they_take(self):
        for plain in (row([YO], [TOG, YO], [BO]), row([K] * 4), row([KFB, K], [K]), row([BO] * 12, [K]), row()):
            self.check([4, 2], ("block", (3, 0), (plain,)), ("row", MORE), ("row", plain), ("row", MORE), plain=plain)

    def test_the_changed_row(self):
        change = row([], [TOG])
        self.check([1, 1], ("row", change), ("row", change), change=change)
        self.check([1], part(), change=row())

    def test_spread_decreases(self):
        found = shaped("round", (20, 0), PLAIN, row([TOG], [K]), spread(7, 3))
        self.assertEqual([part[0] for part in found.parts], ["row", "row", "row", "row", "block", "row"])
        self.assertEqual(found.way, "round")

    def refused(self, error, *arguments):
        with self.assertRaises(error) as caught:
            shaped(*arguments)
        return caught.exception

    def test_too_many_parts(self):
        self.assertEqual(len(shaped("flat", (4, 0), PLAIN, MORE, [2] * 20).parts), 40)
        self.assertIsNone(self.refused(BadPiece, "flat", (4, 0), PLAIN, MORE, [2] * 20 + [1]).part)
        self.assertIsNone(self.refused(BadPiece, "flat", (4, 0), row([], [K, YO]), MORE, [10000] * 60).part)
        self.assertEqual(len(shaped("flat", (4, 0), PLAIN, MORE, [0] * 30 + [1] * 30).parts), 30)

    def test_which_of_several_errors(self):
        for gaps in NO_GAPS:
            self.refused(BadGaps, "flat", (4, 0), PLAIN, MORE, gaps)
            self.refused(BadGaps, "sideways", (400, 0), None, (), gaps)
        for thing in [((), (), (K,)), ((), (YO,), ()), (K,)] + ODD_THINGS:
            self.refused(BadRow, "sideways", (400, 0), thing, MORE, [2])
            self.refused(BadRow, "flat", (4, 0), PLAIN, thing, [2])
            self.refused(BadRow, "flat", (4, 0), PLAIN, thing, [0])
        for way in ["Flat", None, True]:
            self.assertIsNone(self.refused(BadPiece, way, (4, 0), PLAIN, MORE, [2]).part)
        for cast in [(100, 0), (4, 10), [4, 0], None]:
            self.assertIsNone(self.refused(BadPiece, "flat", cast, PLAIN, MORE, [0]).part)

    def test_blocks_that_are_none(self):
        self.assertEqual(self.refused(BadPiece, "flat", (4, 0), PLAIN, MORE, [2, 101]).part, 2)
        self.assertEqual(self.refused(BadPiece, "flat", (4, 0), row([YO] * 13), MORE, [1, 3]).part, 1)
        # A growth of 12 and of 16, a measure of 128.
        grown = row([], [KFB, KFB])
        self.assertIsNone(self.refused(BadPiece, "flat", (4, 0), PLAIN, grown, [1, 1]).part)
        halved = row([], [TOG])
        self.assertEqual(len(shaped("flat", (4, 0), PLAIN, halved, [1] * 5).parts), 5)
        self.assertIsNone(self.refused(BadPiece, "flat", (4, 0), PLAIN, halved, [1] * 6).part)

    def test_the_gaps_stay_as_they_are(self):
        gaps = [1, 0, 2]
        shaped("flat", (4, 0), PLAIN, MORE, gaps)
        self.assertEqual(gaps, [1, 0, 2])


if __name__ == "__main__":
    unittest.main()
