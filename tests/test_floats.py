import unittest

from allstitches.counting import out_sizes
from allstitches.floats import where_narrow, widest
from allstitches.pieces import Piece
from tests.pairs import plain_piece
from tests.things import BO, K, KFB, TOG, YO, block, cloth_at, dice, flat, part, random_piece, ring, row, told

B = ("k", "b")
C = ("p", "c")


def floats(look, yarn):
    places = [place for place, cell in enumerate(look) if cell[1] == yarn]
    return [there - here - 1 for here, there in zip(places, places[1:])]


class TestWidest(unittest.TestCase):
    def check(self, piece, yarn, most):
        for way in ("flat", "round"):
            self.assertEqual(widest(Piece(way, piece.cast, piece.parts), yarn), most)

    def test_example(self):
        piece = Piece("round", (2, 3), (("row", ((("k", "b"),), (("k", "a"),), (("k", "b"),))),))
        self.assertEqual([widest(piece, "b"), widest(piece, "a"), where_narrow(piece, "b", 3).early,
                          where_narrow(piece, "b", 3).later], [None, 0, (0, 1), ()])

    def test_none(self):
        self.check(flat((4, 1)), "a", 0)
        self.check(flat((4, 1), part((), [K])), "z", 0)
        # Once in the look.
        self.check(flat((4, 1), part([B], [K])), "b", 0)
        # Side by side.
        self.check(flat((4, 1), part([B, B], [K])), "b", 0)
        self.check(flat((4, 1), part((), [B])), "b", 0)
        # Neighbouring looks have no float together.
        self.check(flat((4, 1), part([B], [K]), part((), [K], [B])), "b", 0)

    def test_in_a_word(self):
        self.check(flat((6, 0), part([B, K, K, B, K, B])), "b", 2)
        self.check(flat((6, 0), part([B, K, K, B, K, B])), "a", 1)
        self.check(flat((0, 0), part([B, YO, YO, C, B])), "b", 0)
        self.check(flat((3, 0), part([B, YO, YO, C, B])), "b", 3)
        self.check(flat((6, 1), part([B, K, K, B], [K], [C, C])), "b", 2)
        self.check(flat((6, 1), part([C, C], [K], [B, K, K, B])), "b", 2)

    def test_in_groups(self):
        self.check(flat((6, 3), part((), [B, K, K])), "b", 2)
        self.check(flat((6, 3), part((), [B, B, K])), "b", 1)
        self.check(flat((8, 3), part([B], [K, K, K, B], [K, B])), "b", 3)
        # The group has the yarn once; it is worked once at the most.
        self.check(flat((4, -1), part([K], [K, B, K])), "b", 0)
        self.check(flat((7, -1), part([K], [K, B, K])), "b", 2)
        self.check(flat((7, -3), part([B, K], [K, B, K], [K, K])), "b", 2)

    def test_groups_that_are_not_worked(self):
        # At the one size that comes out nothing is between before and after.
        self.check(flat((2, 0), part([B], [K], [B])), "b", 0)
        self.check(flat((4, 0), part([B, K], [B], [K, B])), "b", 2)
        # The float over no turns is the widest one, and at the size 0 alone.
        self.check(flat((4, 1), part([B, K], [B], [K, B])), "b", 2)
        self.check(flat((5, 1), part([B, K], [B], [K, B])), "b", 1)

    def test_no_greatest_one(self):
        self.check(flat((2, 3), part([B], [K], [B])), "b", None)
        self.check(flat((2, 3), part([B, K], [K], [K, B])), "a", 0)
        self.check(flat((2, 3), part([K, B], [B], [K])), "a", None)
        # In the first round the float is as wide as the size.
        self.check(flat((9, 1), block((1, 1), row([BO, B], [K], [B]))), "b", None)
        self.check(flat((9, 0), block((4, 0), row([BO, B], [K], [B]))), "b", 6)
        # It grows from round to round.
        self.check(flat((2, 0), block((0, 1), row([B, YO], [K], [B]))), "b", None)
        self.check(flat((2, 0), block((4, 0), row([B, YO], [K], [B]))), "b", 4)
        self.check(flat((2, 0), block((9, -1), row([B, YO], [K], [B]))), "b", 9)
        # It grows in the row behind.
        self.check(flat((2, 0), block((0, 1), row([YO], [K])), part([B], [K], [B])), "b", None)

    def test_a_greatest_one_of_many(self):
        self.check(flat((40, -2), part([B], [K], [B])), "b", 38)
        self.check(flat((41, -2), part([B, K], [K, K], [B])), "b", 39)
        self.check(flat((99, 0), block((0, 1), row([BO, B], [K], [B]))), "b", 96)
        self.check(flat((3, 9), block((0, 0), row([B], [K], [B]))), "b", 0)

    def test_where_none_comes_out(self):
        self.check(flat((-1, 0), part([B, K, B])), "b", 0)
        self.check(flat((4, 1), part([B, K, B]), part([K] * 9)), "b", 0)
        self.check(flat((1, 2), part([B, K, K, B], [K, K])), "b", 0)

    def test_scant_sizes(self):
        # The block is worked once at the size 3, and comes out nowhere else.
        piece = flat((6, 0), block((-2, 1), row([B] + [KFB] * 4 + [B])))
        self.assertEqual(told(out_sizes(piece)), ((2, 3), 4, 1, ()))
        self.check(piece, "b", 4)
        self.check(flat((6, 0), block((-2, 1), row([B] + [KFB] * 4 + [B])), part([K] * 6)), "b", 0)

    def test_beyond_the_sizes_of_sets(self):
        thin = [part((), [TOG])] * 5 + [block((99, 0), row([BO] * 12, [K]))] * 33
        self.check(ring((0, 1), *thin, part([B, K, K], [K], [K] * 3)), "b", 0)
        self.check(ring((0, 1), *thin, part([B], [K], [B])), "b", None)


class TestWhereNarrow(unittest.TestCase):
    def check(self, piece, yarn, most, form):
        for way in ("flat", "round"):
            self.assertEqual(told(where_narrow(Piece(way, piece.cast, piece.parts), yarn, most)), form)

    def test_yarns_that_are_not_there(self):
        piece = flat((4, 1), part([K], [K, B, B]))
        self.assertEqual(where_narrow(piece, "z", 0), out_sizes(piece))
        self.check(flat((4, 1), part([K], [K, B, B])), "z", 0, ((), 0, 3, (0,)))

    def test_most(self):
        piece = flat((6, 2), part([B, K], [K], [B]))
        self.check(piece, "b", 0, ((), 0, 1, ()))
        self.check(piece, "b", 3, ((), 0, 1, ()))
        self.check(piece, "b", 4, ((0,), 1, 1, ()))
        self.check(piece, "b", 5, ((0,), 1, 1, ()))
        self.check(piece, "b", 6, ((0, 1), 2, 1, ()))
        self.check(piece, "b", 1000, (tuple(range(499)), 499, 1, ()))

    def test_groups(self):
        piece = flat((3, 3), part((), [B, K, K]))
        # One turn has no float.
        self.check(piece, "b", 0, ((0,), 1, 1, ()))
        self.check(piece, "b", 1, ((0,), 1, 1, ()))
        self.check(piece, "b", 2, ((), 0, 1, (0,)))
        self.check(piece, "a", 0, ((0,), 1, 1, ()))
        self.check(piece, "a", 1, ((), 0, 1, (0,)))
        # No turn has a wide one, or just one turn has none.
        piece = flat((4, 1), part([B, K], [B], [K, B]))
        self.check(piece, "b", 1, ((), 1, 1, (0,)))
        self.check(piece, "b", 2, ((), 0, 1, (0,)))
        # The same with fewer turns at greater sizes, and with one turn, or none, at all sizes.
        self.check(flat((10, -1), *piece.parts), "b", 1, (tuple(range(6)), 6, 1, ()))
        self.check(flat((10, -2), *piece.parts), "b", 1, ((0, 1, 2), 3, 1, ()))
        self.check(flat((5, 0), *piece.parts), "b", 1, ((), 0, 1, (0,)))
        self.check(flat((4, 0), *piece.parts), "b", 1, ((), 0, 1, ()))
        # And where more turns are wide.
        self.check(flat((12, -2), part([B, K], [K], [B])), "b", 4, ((3, 4), 5, 1, ()))
        self.check(flat((13, -2), part([B, K], [K], [B])), "b", 4, ((4, 5), 6, 1, ()))

    def test_fixed_words(self):
        self.check(flat((4, 1), part([B, K, K, B], [K])), "b", 1, ((), 0, 1, ()))
        self.check(flat((4, 1), part([B, K, K, B], [K])), "b", 2, ((), 0, 1, (0,)))
        self.check(flat((4, 1), part([B, K, K, B])), "b", 2, ((0,), 1, 1, ()))
        # The row is worked from the size 2 on alone.
        self.check(flat((3, 0), block((-1, 1), row([B, K, B])), part((), [K])), "b", 0, ((1,), 2, 1, ()))
        piece = flat((4, 1), block((0, 1), row([YO], [K])), part([B], [K, C], [B]))
        self.check(piece, "b", 4, ((0, 1), 2, 1, ()))

    def test_rounds(self):
        # From round to round the float grows, or becomes less.
        self.check(flat((2, 0), block((0, 1), row([B, YO], [K], [B]))), "b", 3, ((0, 1, 2, 3), 4, 1, ()))
        self.check(flat((2, 0), block((9, -1), row([B, YO], [K], [B]))), "b", 3, ((6, 7, 8, 9), 10, 1, ()))
        self.check(flat((9, 1), block((3, 0), row([BO, B], [K], [B]))), "b", 7, ((0, 1), 2, 1, ()))
        # The float is there in the last round but one alone, where the group is worked once.
        once = row([B, K, BO], [K, B], [K])
        self.check(flat((2, 0), block((0, 0), once)), "b", 0, ((), 0, 1, (0,)))
        narrower = flat((9, 0), block((0, 1), row([BO, B, K, K], [B], [])))
        self.check(narrower, "b", 1, ((0,), 1, 1, ()))
        self.check(narrower, "b", 2, (tuple(range(7)), 7, 1, ()))

    def test_no_turns_in_the_last_round(self):
        # Once the group is not worked, its two neighbours are three cells apart.
        piece = flat((9, 0), block((0, 1), row([B, K, BO], [B], [K, K, B])))
        self.assertEqual(out_sizes(piece).many, 5)
        self.check(piece, "b", 2, ((0, 1, 2, 3), 4, 1, ()))
        self.check(piece, "b", 4, ((0, 1, 2, 3, 4), 5, 1, ()))

    def test_where_none_comes_out(self):
        self.check(flat((-1, 0), part([B, K, B])), "b", 9, ((), 0, 1, ()))
        self.check(flat((1, 2), part([K], [K, K], [K])), "a", 9, ((), 0, 1, ()))

    def test_classes_of_sizes(self):
        piece = flat((7, 1), part([B], [K, K, K], [B]), part((), [K, K]))
        self.assertEqual(told(out_sizes(piece)), ((), 0, 6, (1,)))
        self.check(piece, "b", 12, ((1, 7), 8, 1, ()))
        self.check(piece, "b", 11, ((1,), 2, 1, ()))

    def test_against_knitting(self):
        rolls = dice(60)
        seen = {}
        for number in range(500):
            piece = plain_piece(rolls, "aabc") if number % 3 else random_piece(rolls)
            looks = [cloth_at(piece, size) for size in range(16)]
            out = out_sizes(piece)
            for yarn in "ab":
                wide = [None if each is None else max([0] + [one for look in each for one in floats(look, yarn)])
                        for each in looks]
                for most in (0, 1, 2, 3, 5, 9):
                    found = where_narrow(piece, yarn, most)
                    self.assertEqual([size in found for size in range(16)],
                                     [each is not None and each <= most for each in wide], (piece.cast, piece.parts))
                self.check_widest(piece, yarn, [each for each in wide if each is not None], out, seen)
        self.assertGreater(min(seen.values()), 50, seen)

    def check_widest(self, piece, yarn, wide, out, seen):
        found = widest(piece, yarn)
        if found is None:
            seen["none"] = seen.get("none", 0) + 1
            self.assertIsNone(out.many)
            self.assertIsNotNone(where_narrow(piece, yarn, 50).many)
        elif out.many is not None and (out.many == 0 or out.early[-1] < 16):
            seen["finite"] = seen.get("finite", 0) + 1
            self.assertEqual(found, max(wide, default=0), (piece.cast, piece.parts))
        else:
            seen["ever"] = seen.get("ever", 0) + 1
            self.assertGreaterEqual(found, max(wide, default=0))
            self.assertEqual(where_narrow(piece, yarn, found), out)
            if found > 0:
                self.assertNotEqual(where_narrow(piece, yarn, found - 1), out)


if __name__ == "__main__":
    unittest.main()
