import unittest

from allstitches.errors import BadPiece
from allstitches.pieces import Piece, is_row, measure_of
from tests.things import BO, CABLE, CDD, K, KFB, ODD_THINGS, P, TOG, YO, block, part, row

PLAIN = part((), (K,))


class TestRows(unittest.TestCase):
    def test_rows(self):
        right = [row(), row([K]), row([BO, YO]), row((), [K]), row([K], [K, P], [P]), row([YO], [TOG, YO]),
                 row([], [BO]), row([], [YO, YO, K], [YO])]
        for thing in right:
            self.assertIs(is_row(thing), True, thing)

    def test_a_group_takes_a_loop(self):
        self.assertIs(is_row(row((), [YO])), False)
        self.assertIs(is_row(row([K], [YO, ("co", "b"), ("m1l", "a")], [K])), False)

    def test_without_a_group_after_is_empty(self):
        self.assertIs(is_row(row([K], (), [K])), False)
        self.assertIs(is_row(row((), (), [YO])), False)

    def test_lengths(self):
        self.assertIs(is_row(row([K] * 60, [K] * 30, [K] * 60)), True)
        self.assertIs(is_row(row([CABLE] * 60)), True)
        for thing in [row([K] * 61, [K] * 30, [K] * 60), row([K] * 60, [K] * 31, [K] * 60),
                      row([K] * 60, [K] * 30, [K] * 61), row([K] * 61)]:
            self.assertIs(is_row(thing), False)

    def test_any_thing(self):
        for thing in ODD_THINGS:
            self.assertIs(is_row(thing), False, thing)
        wrong = [[(), (), ()], ((), ()), ((), (), (), ()), ([], (), ()), ((), [], ()), ((), (), []), ("", "", ""),
                 (None, (), ()), ((K,), (P, None), ()), ((K,), K, ()), ((("k", 1),), (), ()), (True, (), ()),
                 ((("k", "A"),), (), ()), ((), (("kk", "a"),), ())]
        for thing in wrong:
            self.assertIs(is_row(thing), False, thing)


class TestMeasure(unittest.TestCase):
    def test_without_parts(self):
        self.assertEqual(measure_of(()), 2)
        self.assertEqual(measure_of((part(),)), 2)

    def test_blocks(self):
        for many, measure in [(1, 4), (2, 4), (3, 12), (4, 8), (5, 20), (6, 12), (7, 28), (19, 76), (20, 40)]:
            self.assertEqual(measure_of((block((0, 1), *[row()] * many),)), measure)
        self.assertEqual(measure_of((block((1, 0), row(), row()), block((0, 0), *[row()] * 3))), 12)
        self.assertEqual(measure_of((block((1, 0), *[row()] * 4), block((0, 0), *[row()] * 6))), 24)

    def test_groups_that_keep_the_loops(self):
        self.assertEqual(measure_of((part((), [K] * 5),)), 10)
        self.assertEqual(measure_of((part((), [K] * 5), part((), [K] * 5), part((), [K, P]))), 10)
        self.assertEqual(measure_of((part((), [TOG, YO, K]), part([K, K], [CABLE]))), 12)

    def test_groups_that_do_not(self):
        self.assertEqual(measure_of((part((), [TOG]),)), 4)
        self.assertEqual(measure_of((part((), [TOG]), part((), [TOG]))), 8)
        self.assertEqual(measure_of((part((), [K, KFB]), part((), [CDD]), part((), [K] * 4))), 72)
        self.assertEqual(measure_of((part((), [KFB]), part((), [K, K, K]))), 6)

    def test_groups_in_blocks_count(self):
        parts = (block((0, 1), row((), [K] * 5), row((), [TOG, YO])), part((), [K, K, CDD]))
        self.assertEqual(measure_of(parts), 100)
        self.assertEqual(measure_of((block((0, 1), row((), [K] * 7)),)), 28)

    def test_measures_above_the_limit_are_told(self):
        self.assertEqual(measure_of((part((), [K] * 11), part((), [K] * 13))), 286)


class TestPiece(unittest.TestCase):
    def refused(self, wrong, *told):
        with self.assertRaises(BadPiece, msg=told) as caught:
            Piece(*told)
        self.assertEqual(caught.exception.part, wrong, told)

    def test_attributes(self):
        parts = (part([K], [P], [K]), block((3, -1), row((), [K]), row([YO], [K])))
        for way in ("flat", "round"):
            piece = Piece(way, (6, 4), parts)
            self.assertEqual((piece.way, piece.cast, piece.parts), (way, (6, 4), parts))

    def test_without_parts(self):
        self.assertEqual(Piece("round", (0, 0), ()).parts, ())

    def test_pieces_are_equal_only_if_they_are_one(self):
        one = Piece("flat", (1, 1), ())
        self.assertEqual(one, one)
        self.assertNotEqual(one, Piece("flat", (1, 1), ()))

    def test_ways(self):
        for way in ODD_THINGS + ["Flat", "flat ", ["flat"], ("flat",), "ring"]:
            self.refused(None, way, (1, 0), ())

    def test_casts(self):
        for cast in ODD_THINGS + [(100, 0), (0, 10), (True, 0), [1, 0], 5]:
            self.refused(None, "flat", cast, ())
        for cast in [(99, 9), (-99, -9)]:
            self.assertEqual(Piece("flat", cast, ()).cast, cast)

    def test_tuples_of_parts(self):
        for parts in [None, [], [PLAIN], "", {}, 0, True, range(0), set()]:
            self.refused(None, "flat", (1, 0), parts)
        self.assertEqual(len(Piece("flat", (1, 0), (PLAIN,) * 40).parts), 40)
        self.refused(None, "flat", (1, 0), (PLAIN,) * 41)

    def test_wrong_parts(self):
        rows = (row((), [K]),)
        wrong = ODD_THINGS + [
            (), ["row", row()], ("row",), ("row", row(), ()), ("row", row((), [YO])), ("row", [(), (), ()]),
            ("Row", row()), (b"row", row()), (["row"], row()), row(), ("block",), ("block", (1, 0)),
            ("block", (1, 0), rows, ()), ("block", (100, 0), rows), ("block", (0, 10), rows), ("block", [1, 0], rows),
            ("block", 3, rows), ("block", (True, 0), rows), ("block", (1, 0), ()), ("block", (1, 0), list(rows)),
            ("block", (1, 0), row()), ("block", (1, 0), rows + (None,)), ("block", (1, 0), (row((), [YO]),)),
            ("Block", (1, 0), rows), ("block", rows, (1, 0)), ("row", (1, 0), rows), ("block", row()),
        ]
        for thing in wrong:
            self.refused(0, "flat", (1, 0), (thing,))
            self.refused(2, "round", (1, 0), (PLAIN, PLAIN, thing, PLAIN))
            self.refused(1, "round", (1, 0), (PLAIN, thing, None))

    def test_rows_of_a_block(self):
        rows = (row((), [K]),)
        self.assertEqual(len(Piece("flat", (1, 0), (("block", (0, 1), rows * 20),)).parts[0][2]), 20)
        self.refused(0, "flat", (1, 0), (("block", (0, 1), rows * 21),))
        Piece("flat", (1, 0), (block((99, 9), row()), block((-99, -9), row())))

    def test_groups_of_a_block_make_what_they_take(self):
        for group in [[TOG], [KFB], [K, BO], [K, YO], [CDD, YO]]:
            Piece("flat", (1, 0), (part((), group),))
            self.refused(1, "flat", (1, 0), (PLAIN, block((1, 0), row((), [K]), row((), group))))
        Piece("flat", (1, 0), (block((1, 0), row((), [TOG, YO]), row([K, K]), row()),))

    def test_the_change_of_a_block(self):
        twelve = [row([YO] * 6, [K], [YO]), row([KFB] * 5)]
        Piece("flat", (1, 0), (block((1, 0), *twelve),))
        self.refused(0, "flat", (1, 0), (block((1, 0), *twelve, row([KFB])),))
        less = [row([BO] * 6, [K], [BO]), row([TOG] * 5)]
        Piece("flat", (1, 0), (block((1, 0), *less),))
        self.refused(0, "flat", (1, 0), (block((1, 0), *less, row((), [K], [TOG])),))
        # Taken together, not row by row.
        Piece("flat", (1, 0), (block((1, 0), row([YO] * 30), row([BO] * 30)),))
        # The group's own cells do not count.
        Piece("flat", (1, 0), (block((1, 0), row([YO] * 12, [TOG, YO] * 15)),))

    def test_the_measure(self):
        Piece("flat", (1, 0), (part((), [CABLE] * 30),))
        Piece("flat", (1, 0), (block((0, 1), *[row((), [K] * 3)] * 20),))
        self.refused(None, "flat", (1, 0), (block((0, 1), *[row((), [K] * 9)] * 20),))
        self.refused(None, "flat", (1, 0), (part((), [K] * 11), part((), [K] * 12)))
        self.refused(None, "flat", (1, 0), (part((), [TOG]),) * 7)
        Piece("flat", (1, 0), (part((), [TOG]),) * 5)
        self.assertEqual(measure_of((part((), [TOG]),) * 5), 64)

    def test_the_growth(self):
        Piece("flat", (1, 0), (part((), [KFB] * 6),))
        self.refused(None, "flat", (1, 0), (part((), [KFB] * 6 + [YO]),))
        Piece("flat", (1, 0), (part((), [KFB]), part((), [KFB]), part((), [KFB, YO])))
        self.refused(None, "flat", (1, 0), (part((), [KFB]),) * 4)
        # Only groups that make more loops than they take count.
        Piece("flat", (1, 0), (part([YO] * 40, [K] * 2, [YO]), part((), [KFB] * 6), part([YO], [TOG])))

    def test_the_position_comes_before_measure_and_growth(self):
        self.refused(2, "flat", (1, 0), (part((), [K] * 11), part((), [K] * 12), None))
        self.refused(1, "flat", (1, 0), (part((), [KFB] * 15), ("row", None)))

    def test_several_errors(self):
        self.refused(None, "ring", (1, 0), (None,))
        self.refused(None, "flat", (100, 0), (None,))
        self.refused(None, "flat", (1, 0), (None,) * 41)
        self.refused(0, "flat", (1, 0), (None,) * 40)


if __name__ == "__main__":
    unittest.main()
