import unittest

from allstitches.errors import BadSize, NotOut, TooLong
from allstitches.knitting import MOST, Needles, cloth, loops_at
from tests.things import (BO, CABLE, K, KFB, ODD_THINGS, P, TOG, YO, block, cloth_at, dice, flat, knit, part,
                          random_piece, ring, row)

B = ("k", "b")
BP = ("p", "b")


class TestCloth(unittest.TestCase):
    def refused(self, why, piece, size):
        for work in (cloth, loops_at):
            with self.assertRaises(NotOut) as caught:
                work(piece, size)
            self.assertEqual((caught.exception.row, caught.exception.why), why)

    def test_flat_and_round(self):
        parts = [part([K], [K, P], [B]), part([K], [K, P], [B])]
        self.assertEqual(cloth(ring((4, 2), *parts), 1), [(K, K, P, K, P, B)] * 2)
        self.assertEqual(cloth(flat((4, 2), *parts), 1), [(K, K, P, K, P, B), (BP, K, P, K, P, P)])

    def test_all_kinds_from_the_wrong_side(self):
        word = (("ssk", "c"), CABLE, ("m1l", "a"), YO, KFB)
        piece = flat((7, 0), part((), [K]), ("row", (word, (), ())))
        self.assertEqual(cloth(piece, 0)[1],
                         (("pfb", "a"), YO, ("m1lp", "a"), ("c4fw", "a"), ("ssp", "c")))

    def test_rounds_of_a_block(self):
        rows = [row([YO], [K]), row([P], [K])]
        piece = flat((2, 0), block((0, 1), *rows), part((), [B]))
        self.assertEqual(cloth(piece, 0), [(B, B)])
        self.assertEqual(cloth(piece, 2), [(YO, K, K), (P, P, K), (YO, K, K, K), (P, P, P, K), (B,) * 4])

    def test_odd_blocks_in_a_flat_piece(self):
        piece = flat((3, 0), block((3, 0), row((), [K])), part((), [K]))
        self.assertEqual(cloth(piece, 5), [(K,) * 3, (P,) * 3, (K,) * 3, (P,) * 3])
        self.assertEqual(cloth(ring((3, 0), *piece.parts), 5), [(K,) * 3] * 4)

    def test_blocks_worked_no_times(self):
        piece = flat((3, 1), block((0, 0), row([K] * 7)), block((-2, 1), row((), [P])), part((), [K]))
        self.assertEqual(cloth(piece, 2), [(K,) * 5])

    def test_empty_rows_and_no_loops(self):
        piece = flat((0, 0), part(), part(), part([YO] * 2), part(), part())
        self.refused((3, "left"), piece, 0)
        piece = flat((0, 0), part(), part((), [K]), part([YO]), part([], [TOG, K], [K]))
        self.assertEqual(cloth(piece, 3), [(), (), (YO,), (P,)])
        self.assertEqual(cloth(flat((0, 2)), 0), [])
        self.assertEqual(cloth(flat((0, 2)), 9), [])

    def test_rows_without_a_group(self):
        piece = flat((3, 0), part([TOG, KFB]), part([K, P, P]))
        self.assertEqual(cloth(piece, 0), [(TOG, KFB), (K, K, P)])

    def test_groups_that_make_nothing(self):
        piece = flat((5, 0), part([K], [BO], [K]), part([K, P]))
        self.assertEqual(cloth(piece, 0), [(K, BO, BO, BO, K), (K, P)])
        self.assertEqual(loops_at(piece, 0), [5, 2, 2])

    def test_as_much_as_most_tells(self):
        piece = flat((5, 1), block((0, 1), row((), [K])))
        # At the size 3, there are 3 rows of 8 cells.
        self.assertEqual(len(cloth(piece, 3, most=27)), 3)
        for most in (26, 3, 2, 0, -1):
            with self.assertRaises(TooLong):
                cloth(piece, 3, most=most)
        self.assertEqual(cloth(piece, 0, most=0), [])
        wide = flat((99, 9), part((), [K]))
        self.assertEqual(len(cloth(wide, 11100)[0]), 99999)
        with self.assertRaises(TooLong):
            cloth(wide, 11101)

    def test_rows_alone_count(self):
        piece = flat((0, 0), block((0, 1), row()))
        self.assertEqual(MOST, 100000)
        self.assertEqual(len(cloth(piece, MOST)), MOST)
        with self.assertRaises(TooLong):
            cloth(piece, MOST + 1)
        self.assertEqual(loops_at(piece, MOST), [0] * (MOST + 1))
        with self.assertRaises(TooLong):
            loops_at(piece, MOST + 1)

    def test_great_sizes_are_refused_at_once(self):
        piece = flat((4, 1), part((), [K]), block((0, 9), row((), [P])))
        for work in (cloth, loops_at):
            with self.assertRaises(TooLong):
                work(piece, 10 ** 60)
        self.assertEqual(loops_at(flat((4, 1), part((), [K])), 10 ** 60), [4 + 10 ** 60] * 2)

    def test_no_sizes(self):
        piece = flat((-4, 0), part())
        for size in ODD_THINGS + [-10 ** 20]:
            for work in (cloth, loops_at):
                with self.assertRaises(BadSize):
                    work(piece, size)

    def test_sizes_that_do_not_come_out(self):
        self.refused((0, "cast"), flat((3, -1)), 4)
        self.refused((2, "times"), flat((3, 0), part((), [K]), part((), [K]), block((1, -1), row())), 2)
        self.refused((1, "few"), flat((3, 1), part((), [K]), part([K] * 4)), 0)
        self.refused((1, "left"), flat((3, 1), part((), [K]), part([K] * 4)), 3)
        self.refused((0, "parts"), flat((3, 1), part([K], [K, K])), 1)
        # It does not come out, and is too long.
        self.refused((2 * 10 ** 9, "left"), flat((3, 0), block((0, 2), row((), [K])), part()), 10 ** 9)

    def test_new_lists(self):
        piece = flat((3, 2), part((), [K]))
        cloth(piece, 1).clear()
        loops_at(piece, 1).clear()
        self.assertEqual((cloth(piece, 1), loops_at(piece, 1)), ([(K,) * 5], [5, 5]))

    def test_how_it_is_called(self):
        piece = flat((3, 2), part((), [K]))
        with self.assertRaises(TypeError):
            cloth(piece, size=1)
        with self.assertRaises(TypeError):
            cloth(piece, 1, 50)

    def test_against_knitting(self):
        rolls = dice(20)
        seen = 0
        for _ in range(500):
            piece = random_piece(rolls)
            for size in range(8):
                before, behind, why = knit(piece, size)
                if why is not None:
                    self.refused(why, piece, size)
                    continue
                seen += 1
                self.assertEqual(loops_at(piece, size), before + [behind])
                self.assertEqual(cloth(piece, size), cloth_at(piece, size), (piece.way, piece.cast, piece.parts))
        self.assertGreater(seen, 300)


class TestNeedles(unittest.TestCase):
    def test_rows_one_by_one(self):
        needles = Needles(4)
        self.assertEqual((needles.loops, needles.done), (4, []))
        self.assertEqual(needles.work(row([K], [TOG], [KFB])), (K, TOG, KFB))
        self.assertEqual(needles.loops, 4)
        self.assertEqual(needles.work(row([K], [TOG, P], [])), (K, ("p2tog", "a"), P))
        self.assertEqual((needles.loops, needles.done), (3, [(K, TOG, KFB), (K, ("p2tog", "a"), P)]))

    def test_in_the_round(self):
        needles = Needles(2, "round")
        self.assertEqual([needles.work(row((), [K])) for _ in range(3)], [(K, K)] * 3)
        self.assertEqual(Needles(2, way="flat").work(row((), [K])), (K, K))

    def test_no_loops(self):
        needles = Needles(0)
        self.assertEqual(needles.work(row()), ())
        self.assertEqual(needles.work(row((), [K])), ())
        self.assertEqual(needles.work(row([YO])), (YO,))
        self.assertEqual(needles.loops, 1)

    def test_rows_that_do_not_fit(self):
        needles = Needles(5)
        needles.work(row((), [K]))
        held = needles.done
        for wrong, why in [(row([K] * 6), "few"), (row([K] * 4, [TOG], [K, K]), "few"), (row([K] * 4), "left"),
                           (row(), "left"), (row([K, K], [TOG]), "parts"), (row([K] * 9, [K, K]), "few")]:
            with self.assertRaises(NotOut) as caught:
                needles.work(wrong)
            self.assertEqual((caught.exception.row, caught.exception.why), (1, why))
            self.assertEqual((needles.loops, needles.done), (5, [(K,) * 5]))
            self.assertIs(needles.done, held)
        self.assertEqual(needles.work(row((), [K])), (P,) * 5)

    def test_a_new_list_behind_each_row(self):
        needles = Needles(1)
        needles.work(row([K]))
        held = needles.done
        needles.work(row([K]))
        self.assertEqual((held, needles.done), ([(K,)], [(K,), (P,)]))

    def test_a_list_that_the_caller_changes(self):
        needles = Needles(1)
        needles.work(row([K]))
        needles.done.clear()
        self.assertEqual(needles.work(row([K])), (P,))
        self.assertEqual(needles.done, [(K,), (P,)])
        needles.done.append(None)
        with self.assertRaises(NotOut) as caught:
            needles.work(row())
        self.assertEqual(caught.exception.row, 2)

    def test_many_loops(self):
        needles = Needles(10 ** 5)
        self.assertEqual(len(needles.work(row([K], [TOG], [K]))), 50001)

    def test_against_cloth(self):
        rolls = dice(21)
        for _ in range(200):
            piece = random_piece(rolls)
            for size in range(6):
                before, behind, why = knit(piece, size)
                if why is None:
                    needles = Needles(piece.cast[0] + piece.cast[1] * size, piece.way)
                    for one in piece.parts:
                        rows = [one[1]] if one[0] == "row" else list(one[2]) * (one[1][0] + one[1][1] * size)
                        for each in rows:
                            needles.work(each)
                    self.assertEqual((needles.done, needles.loops), (cloth_at(piece, size), behind))


if __name__ == "__main__":
    unittest.main()
