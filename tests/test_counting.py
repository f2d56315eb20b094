import unittest

from allstitches.counting import last_loops, out_sizes, spots, trouble
from allstitches.knitting import cloth
from allstitches.lines import Ratio
from allstitches.pieces import Piece
from allstitches.sizes import Sizes
from tests.things import BO, K, KFB, P, TOG, YO, block, dice, flat, knit, part, random_piece, ring, row, told

ALL = Sizes((), 0, 1, (0,))
NONE = Sizes((), 0, 1, ())


def line(ratio):
    return (ratio.base, ratio.rise, ratio.below)


class TestSpots(unittest.TestCase):
    def test_where_and_which(self):
        one, two, three = row((), [K]), row([YO], [P]), row([K], [K, P])
        piece = flat((6, 4), ("row", one), block((2, 1), two, one), ("row", three))
        found = spots(piece)
        self.assertEqual([(spot.part, spot.place, spot.row) for spot in found],
                         [(0, 0, one), (1, 0, two), (1, 1, one), (2, 0, three)])
        self.assertEqual([line(spot.loops) for spot in found], [(6, 4, 1), (6, 4, 1), (7, 4, 1), (8, 5, 1)])
        self.assertTrue(all(isinstance(spot.loops, Ratio) for spot in found))
        self.assertEqual(line(last_loops(piece)), (8, 5, 1))

    def test_without_rows(self):
        self.assertEqual(spots(flat((5, -2))), [])
        self.assertEqual(line(last_loops(flat((5, -2)))), (5, -2, 1))

    def test_groups_that_change_the_loops(self):
        piece = flat((6, 4), part([K], [TOG, K], [K]), part((), [K, P]), part((), [KFB]))
        self.assertEqual([line(spot.loops) for spot in spots(piece)], [(6, 4, 1), (14, 8, 3), (14, 8, 3)])
        self.assertEqual(line(last_loops(piece)), (28, 16, 3))
        self.assertEqual(last_loops(piece).at(2), 20)

    def test_fractions_that_become_whole_again(self):
        piece = flat((0, 1), part((), [K, TOG]), part((), [K, KFB]))
        self.assertEqual(line(spots(piece)[1].loops), (0, 2, 3))
        self.assertEqual(line(last_loops(piece)), (0, 1, 1))

    def test_groups_that_make_nothing(self):
        piece = flat((3, 2), part([YO, K], [BO], [K]), part([K, K, K]))
        self.assertEqual([line(spot.loops) for spot in spots(piece)], [(3, 2, 1), (3, 0, 1)])

    def test_rows_without_a_group(self):
        piece = flat((3, 2), part([K, KFB]), part([TOG, K]))
        self.assertEqual([line(spot.loops) for spot in spots(piece)], [(3, 2, 1), (3, 0, 1)])
        self.assertEqual(line(last_loops(piece)), (2, 0, 1))

    def test_rows_without_a_group_in_a_block(self):
        piece = flat((3, 2), block((4, -1), row([K, KFB]), row([KFB]), row()))
        self.assertEqual([line(spot.loops) for spot in spots(piece)], [(3, 2, 1), (4, 2, 1), (5, 2, 1)])
        self.assertEqual(line(last_loops(piece)), (11, 0, 1))

    def test_blocks_that_are_never_worked(self):
        piece = flat((3, 2), block((0, 0), row([YO], [K])), block((-2, 0), row([YO], [K])), part((), [K]))
        self.assertEqual([line(spot.loops) for spot in spots(piece)], [(3, 2, 1), (3, 2, 1), (1, 2, 1)])

    def test_new_lists(self):
        piece = flat((3, 2), part((), [K]))
        spots(piece).clear()
        self.assertEqual(len(spots(piece)), 1)

    def test_the_lines_are_right_at_the_sizes_that_come_out(self):
        rolls = dice(10)
        seen = 0
        for _ in range(900):
            piece = random_piece(rolls)
            for size in range(12):
                before, behind, why = knit(piece, size)
                if why is None:
                    seen += len(before)
                    self.assertEqual(last_loops(piece).at(size), behind)
                    self.check_first_rounds(piece, size, before)
        self.assertGreater(seen, 1000)

    def check_first_rounds(self, piece, size, before):
        found, at = spots(piece), 0
        for position, one in enumerate(piece.parts):
            mine = [spot for spot in found if spot.part == position]
            times = 1 if one[0] == "row" else one[1][0] + one[1][1] * size
            if times:
                self.assertEqual([spot.loops.at(size) for spot in mine], before[at:at + len(mine)])
            at += times * len(mine)


class TestTrouble(unittest.TestCase):
    def test_none(self):
        self.assertIsNone(trouble(flat((0, 0)), 7))
        self.assertIsNone(trouble(flat((3, 2), part([K], [K, P])), 0))

    def test_cast(self):
        piece = flat((-1, 1), block((-1, 0), row()))
        self.assertEqual(trouble(piece, 0), (0, "cast"))
        self.assertEqual(trouble(piece, 1), (0, "times"))
        self.assertEqual(trouble(flat((5, -2), part([K])), 3), (0, "cast"))

    def test_cast_of_no_loops(self):
        self.assertIsNone(trouble(flat((0, 0), part(), part([YO] * 3), part((), [K], [TOG])), 4))
        self.assertEqual(trouble(flat((0, 0), part(), part((), [K], [K])), 4), (1, "few"))

    def test_times(self):
        piece = flat((4, 0), part((), [K]), block((3, 0), row((), [K]), row((), [P])), block((2, -1), row((), [K])))
        self.assertIsNone(trouble(piece, 2))
        self.assertEqual(trouble(piece, 3), (7, "times"))

    def test_few(self):
        self.assertEqual(trouble(flat((3, 0), part((), [K]), part([K, TOG], [K], [K])), 0), (1, "few"))
        self.assertEqual(trouble(flat((3, 0), part([K] * 4)), 0), (0, "few"))
        # It needs more loops, even if what is missing could be parted.
        self.assertEqual(trouble(flat((2, 0), part([K] * 4, [K, P])), 0), (0, "few"))

    def test_left(self):
        self.assertEqual(trouble(flat((3, 0), part([K, K])), 0), (0, "left"))
        self.assertEqual(trouble(flat((3, 0), part()), 0), (0, "left"))

    def test_parts(self):
        self.assertEqual(trouble(flat((4, 1), part([K], [K, P, K])), 1), (0, "parts"))
        self.assertIsNone(trouble(flat((4, 1), part([K], [K, P, K])), 0))

    def test_the_empty_row(self):
        self.assertIsNone(trouble(flat((0, 1), part()), 0))
        self.assertEqual(trouble(flat((0, 1), part()), 2), (0, "left"))

    def test_in_later_rounds(self):
        narrower = flat((20, 0), block((0, 1), row((), [K]), row([TOG], [K], [TOG])))
        self.assertIsNone(trouble(narrower, 9))
        # Behind 9 rounds 2 loops are left, and the next one needs 4.
        self.assertEqual(trouble(narrower, 10), (19, "few"))
        self.assertEqual(trouble(narrower, 11), (19, "few"))
        by_one = flat((5, 0), block((0, 1), row([BO], [K])))
        self.assertIsNone(trouble(by_one, 5))
        self.assertEqual(trouble(by_one, 6), (5, "few"))

    def test_the_first_row_of_several(self):
        piece = flat((12, 0), block((9, 0), row([BO], [K]), row((), [K, K, K, K]), row((), [K, K])))
        self.assertEqual(trouble(piece, 0), (1, "parts"))
        piece = flat((13, 0), block((9, 0), row([BO], [K]), row((), [K, K, K, K]), row((), [K, K])))
        self.assertEqual(trouble(piece, 0), (4, "parts"))
        piece = flat((13, 0), block((1, 0), row([BO], [K]), row((), [K, K, K, K]), row((), [K, K])))
        self.assertIsNone(trouble(piece, 0))

    def test_rows_without_a_group_in_a_block(self):
        piece = flat((4, 0), block((0, 1), row([K] * 4), row([K, K, KFB, K])))
        self.assertIsNone(trouble(piece, 0))
        self.assertIsNone(trouble(piece, 1))
        self.assertEqual(trouble(piece, 2), (2, "left"))
        piece = flat((4, 0), block((0, 1), row([K] * 4), row([K, K, TOG])))
        self.assertEqual(trouble(piece, 2), (2, "few"))

    def test_sizes_of_many_digits(self):
        huge = 10 ** 60
        wider = flat((4, 1), block((0, 1), row([YO], [K])), part((), [K, P]))
        self.assertIsNone(trouble(wider, huge))
        self.assertEqual(trouble(flat((5, 1), block((0, 1), row([YO], [K])), part((), [K, P])), huge), (huge, "parts"))
        thinner = flat((0, 1), block((0, 3), row([BO, BO], [K])))
        self.assertEqual(trouble(thinner, 999_999_999), (499_999_999, "few"))
        self.assertEqual(trouble(thinner, 1_000_000_000), (500_000_000, "few"))
        self.assertEqual(trouble(thinner, 2 * huge + 1), (huge, "few"))
        self.assertEqual(trouble(flat((9, -1)), 123_456_789_012), (0, "cast"))
        self.assertEqual(trouble(flat((9, 0), block((9, 9), row((), [K])), block((9, -1), row())), huge),
                         (9 + 9 * huge, "times"))

    def test_against_knitting(self):
        rolls = dice(11)
        whys = {}
        for _ in range(1500):
            piece = random_piece(rolls)
            for size in range(10):
                why = knit(piece, size)[2]
                self.assertEqual(trouble(piece, size), why, (piece.cast, piece.parts, size))
                whys[why and why[1]] = whys.get(why and why[1], 0) + 1
        self.assertEqual(set(whys), {None, "cast", "times", "few", "left", "parts"})
        self.assertGreater(min(whys.values()), 100)


class TestOutSizes(unittest.TestCase):
    def test_example(self):
        group = row([K], [K, P])
        one, two = Piece("flat", (3, 2), (("row", group),)), Piece("flat", (2, 1), (("row", group),))
        self.assertEqual([last_loops(one).rise, last_loops(one).base, out_sizes(two).period, out_sizes(two).later,
                          trouble(two, 0), cloth(two, 1)],
                         [2, 3, 2, (1,), (0, "parts"), [(("k", "a"), ("k", "a"), ("p", "a"))]])
        self.assertEqual(out_sizes(one), ALL)

    def test_all_and_none(self):
        self.assertEqual(out_sizes(flat((0, 0))), ALL)
        self.assertEqual(out_sizes(ring((0, 3), part((), [K, P, K]))), ALL)
        self.assertEqual(out_sizes(flat((-1, 0))), NONE)
        self.assertEqual(out_sizes(flat((1, 0), part())), NONE)
        self.assertEqual(out_sizes(flat((1, 2), part((), [K, P]))), NONE)
        self.assertEqual(out_sizes(flat((1, 2), block((-1, 0), row()))), NONE)

    def test_cast_below_0(self):
        self.assertEqual(told(out_sizes(flat((-7, 2)))), ((), 4, 1, (0,)))
        self.assertEqual(told(out_sizes(flat((-8, 2)))), ((), 4, 1, (0,)))
        self.assertEqual(told(out_sizes(flat((7, -2)))), ((0, 1, 2, 3), 4, 1, ()))
        self.assertEqual(told(out_sizes(flat((8, -2)))), ((0, 1, 2, 3, 4), 5, 1, ()))

    def test_lines_below_0(self):
        self.assertEqual(told(out_sizes(flat((1, 1), block((-5, 2), row((), [K]))))), ((), 3, 1, (0,)))
        self.assertEqual(told(out_sizes(flat((1, 1), block((5, -2), row((), [K]))))), ((0, 1, 2), 3, 1, ()))
        self.assertEqual(told(out_sizes(flat((1, 1), block((5, -2), row()), block((-1, 1), row())))), ((), 0, 1, ()))

    def test_a_line_of_0(self):
        # A block that is not worked may have rows that never fit.
        self.assertEqual(out_sizes(flat((4, 1), block((0, 0), row([K] * 2)))), ALL)
        self.assertEqual(told(out_sizes(flat((9, 1), block((4, -2), row([K]))))), ((2,), 3, 1, ()))
        self.assertEqual(told(out_sizes(flat((9, 1), block((-4, 2), row([K]))))), ((2,), 3, 1, ()))

    def test_a_line_of_1(self):
        # Once, the row fits; the second time the loops can't be parted.
        wider = row([YO], [K, K])
        self.assertEqual(told(out_sizes(flat((4, 0), block((0, 1), wider)))), ((0, 1), 2, 1, ()))
        self.assertEqual(out_sizes(flat((4, 0), block((1, 0), wider))), ALL)
        self.assertEqual(out_sizes(flat((4, 0), block((2, 0), wider))), NONE)
        self.assertEqual(told(out_sizes(flat((4, 2), block((7, -1), wider)))), ((6, 7), 8, 1, ()))
        self.assertEqual(told(out_sizes(flat((4, 0), block((1, 3), wider)))), ((0,), 1, 1, ()))
        self.assertEqual(told(out_sizes(flat((4, 0), block((-5, 3), wider)))), ((2,), 3, 1, ()))
        self.assertEqual(told(out_sizes(flat((4, 0), block((-6, 3), wider)))), ((2,), 3, 1, ()))
        self.assertEqual(told(out_sizes(flat((4, 0), block((10, -3), wider)))), ((3,), 4, 1, ()))
        self.assertEqual(out_sizes(flat((4, 0), block((-4, 3), wider))), NONE)

    def test_two_blocks_of_one_line(self):
        fine = block((-3, 1), row([YO], [K, K]))
        self.assertEqual(told(out_sizes(flat((4, 0), fine, fine))), ((3,), 4, 1, ()))

    def test_rows_without_a_group(self):
        self.assertEqual(told(out_sizes(flat((3, 2), part([K] * 9)))), ((3,), 4, 1, ()))
        self.assertEqual(out_sizes(flat((3, 2), part([K] * 8))), NONE)
        self.assertEqual(out_sizes(flat((3, 0), part([K] * 3), part((), [K, K, K]))), ALL)
        self.assertEqual(told(out_sizes(flat((3, 2), block((0, 1), row([K] * 9))))), ((0, 3), 4, 1, ()))

    def test_groups_one_behind_the_other(self):
        self.assertEqual(told(out_sizes(flat((0, 1), part((), [TOG]), part((), [TOG]), part((), [K, P, K])))),
                         ((), 0, 12, (0,)))
        self.assertEqual(told(out_sizes(flat((5, 3), part([K], [K, TOG], [K]), part((), [K, P])))), ((), 0, 1, (0,)))
        self.assertEqual(told(out_sizes(flat((6, 4), part([K], [TOG, K], [K]), part([K], [K] * 4, [K])))),
                         ((), 0, 3, (2,)))
        self.assertEqual(out_sizes(flat((6, 4), part([K], [TOG, K], [K]), part((), [K] * 4))), NONE)

    def test_many_rounds(self):
        # The loops fall by 2 in each round, and suffice from some size on, or up to one.
        thinner = row([TOG], [K], [TOG])
        self.assertEqual(told(out_sizes(flat((4, 2), block((99, 0), thinner)))), ((), 98, 1, (0,)))
        self.assertEqual(told(out_sizes(flat((99, 0), block((0, 9), thinner)))), (tuple(range(6)), 6, 1, ()))
        self.assertEqual(told(out_sizes(flat((0, 9), block((0, 4), thinner)))), ((0,), 2, 1, (0,)))
        late = flat((-20, 9), block((20, 4), row((), [K, K], [BO, BO])), part((), [K, K]))
        self.assertEqual(told(out_sizes(late)), ((), 59, 2, (1,)))

    def test_great_starts(self):
        falling = block((99, 0), row([BO] * 12, [K]))
        piece = flat((99, 1), *[falling] * 39)
        self.assertEqual(told(out_sizes(piece)), ((), 12 * 99 * 39 - 99, 1, (0,)))
        rising = block((99, 0), row([YO] * 12, [K]))
        found = out_sizes(flat((99, 0), *[rising] * 30, block((0, 1), row([BO], [K]))))
        self.assertEqual(told(found), (tuple(range(99 + 12 * 99 * 30 + 1)), 99 + 12 * 99 * 30 + 1, 1, ()))

    def test_sizes_that_would_suffice_far_out_but_never_fit(self):
        # The loops would suffice from the size 300000 on, but they are even, where odd ones fit.
        parts = [part((), [TOG])] * 3 + [block((99, 0), row([BO] * 12, [K]))] * 35
        piece = flat((0, 1), *parts, part((), [KFB]), part([K], [K, P]))
        self.assertEqual(out_sizes(piece), NONE)

    def test_both_ways_are_alike(self):
        parts = (part([K], [TOG, K], [K]), block((-1, 1), row([YO], [K])))
        self.assertEqual(out_sizes(flat((5, 2), *parts)), out_sizes(ring((5, 2), *parts)))

    def test_against_trouble_of_great_sizes(self):
        rolls = dice(12)
        for _ in range(300):
            piece = random_piece(rolls)
            found = out_sizes(piece)
            for size in [10 ** 9 + step for step in range(13)] + [10 ** 30 + step for step in range(13)]:
                self.assertEqual(size in found, trouble(piece, size) is None, (piece.cast, piece.parts))

    def test_against_knitting(self):
        rolls = dice(13)
        kinds = {"none": 0, "finite": 0, "infinite": 0}
        for _ in range(1500):
            piece = random_piece(rolls)
            found = out_sizes(piece)
            kinds["none" if found.many == 0 else "finite" if found.many else "infinite"] += 1
            self.assertEqual([size for size in range(40) if size in found],
                             [size for size in range(40) if knit(piece, size)[2] is None],
                             (piece.cast, piece.parts))
        self.assertGreater(min(kinds.values()), 100)


if __name__ == "__main__":
    unittest.main()
