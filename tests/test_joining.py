import unittest

from allstitches.counting import last_loops, out_sizes, spots, trouble
from allstitches.errors import BadPiece, BadSizes, NoPart, NotWritten
from allstitches.joining import joined, parted, where_goes_on
from allstitches.knitting import cloth, loops_at
from allstitches.pieces import Piece, measure_of
from allstitches.sameness import compare
from allstitches.sizes import Sizes
from tests.things import (BO, CABLE, K, KFB, ODD_THINGS, P, TOG, YO, block, cloth_at, dice, flat, part, random_piece,
                          ring, row, told)

ALL = Sizes((), 0, 1, (0,))
NONE = Sizes((), 0, 1, ())
PLAIN = row((), [K])


def goes_on(one, two, size):
    """Whether a second piece can go on at a size, by the words of [34]."""
    if trouble(one, size) is not None or trouble(two, size) is not None:
        return False
    loops = loops_at(one, size)
    if loops[-1] != two.cast[0] + two.cast[1] * size:
        return False
    return one.way == "round" or (len(loops) - 1) % 2 == 0


class TestJoined(unittest.TestCase):
    def test_parts_one_behind_the_other(self):
        one = flat((4, 2), part((), [K]), block((0, 1), PLAIN))
        two = flat((1, 1), part((), [P]))
        piece = joined(one, two)
        self.assertIsInstance(piece, Piece)
        self.assertEqual((piece.way, piece.cast, piece.parts), ("flat", (4, 2), one.parts + two.parts))
        self.assertEqual(joined(flat((4, 2)), flat((9, 9))).parts, ())
        self.assertEqual(joined(ring((4, 2)), ring((9, 9), part([K]))).parts, (part([K]),))

    def refused(self, one, two):
        with self.assertRaises(BadPiece) as caught:
            joined(one, two)
        self.assertIsNone(caught.exception.part)

    def test_ways_that_differ(self):
        self.refused(flat((4, 0)), ring((4, 0)))
        self.refused(ring((4, 0), part([K])), flat((4, 0), part([K])))

    def test_what_is_no_piece(self):
        rows = [part((), [K])] * 20
        self.assertEqual(len(joined(flat((4, 0), *rows), flat((4, 0), *rows)).parts), 40)
        self.refused(flat((4, 0), *rows), flat((4, 0), *rows, part((), [K])))
        # A measure that is too great: 3 * 5 * 7 and 2; a growth: 4 and 4.
        odd = [flat((4, 0), part((), [K] * many)) for many in (3, 5, 7)]
        self.assertEqual(measure_of(joined(odd[0], odd[1]).parts), 30)
        self.refused(joined(odd[0], odd[1]), odd[2])
        grown = flat((4, 0), part((), [KFB] * 2))
        self.assertEqual(len(joined(flat((4, 0), part((), [KFB])), grown).parts), 2)
        self.refused(grown, grown)


class TestWhereGoesOn(unittest.TestCase):
    def check(self, one, two, end=40):
        found = where_goes_on(one, two)
        self.assertIsInstance(found, Sizes)
        for size in range(end):
            self.assertEqual(size in found, goes_on(one, two, size), (one.way, one.cast, one.parts, two.cast, size))
        return found

    def test_at_all_sizes(self):
        self.assertEqual(self.check(ring((6, 4), part((), [TOG])), ring((3, 2), part((), [K]))), ALL)
        self.assertEqual(self.check(flat((6, 4)), flat((6, 4))), ALL)

    def test_at_one_size_alone(self):
        self.assertEqual(told(self.check(ring((2, 1), part((), [K])), ring((5, 0)))), ((3,), 4, 1, ()))
        self.assertEqual(told(self.check(ring((20, 1)), ring((2, 2)))), ((18,), 19, 1, ()))
        self.assertEqual(self.check(ring((2, 1)), ring((1, 1))), NONE)
        # The size at which the loops are right is none, or is below 0.
        self.assertEqual(self.check(ring((2, 2)), ring((5, 0))), NONE)
        self.assertEqual(self.check(ring((5, 1)), ring((2, 0))), NONE)
        self.assertEqual(self.check(ring((3, 1)), ring((2, 0))), NONE)
        self.assertEqual(told(self.check(ring((2, 1)), ring((2, 0)))), ((0,), 1, 1, ()))
        # It is one at which one of both does not come out.
        odd = part((), [K, K])
        self.assertEqual(self.check(ring((2, 1), odd), ring((5, 0))), NONE)
        self.assertEqual(self.check(ring((2, 1)), ring((5, 0), odd)), NONE)
        self.assertEqual(told(self.check(ring((99, 0)), ring((-99, 1)), 220)), ((198,), 199, 1, ()))

    def test_flat_first_pieces_with_an_odd_number_of_rows(self):
        two = flat((4, 1), part((), [P]))
        self.assertEqual(self.check(flat((4, 1), part((), [K])), two), NONE)
        self.assertEqual(self.check(flat((4, 1), part((), [K]), part((), [K])), two), ALL)
        self.assertEqual(told(self.check(flat((4, 1), block((0, 1), PLAIN)), two)), ((), 0, 2, (0,)))
        self.assertEqual(told(self.check(flat((4, 1), block((5, -1), PLAIN)), two)), ((1, 3, 5), 6, 1, ()))
        self.assertEqual(self.check(ring((4, 1), block((0, 1), PLAIN)), ring(two.cast, *two.parts)), ALL)
        self.assertEqual(told(self.check(flat((4, 1), block((1, 1), PLAIN)), flat((7, 0)))), ((3,), 4, 1, ()))
        self.assertEqual(self.check(flat((4, 1), block((0, 1), PLAIN)), flat((7, 0))), NONE)

    def test_sizes_at_which_only_one_comes_out(self):
        one = ring((4, 1), part((), [K, P]))
        self.assertEqual(told(self.check(one, ring((4, 1)))), ((), 0, 2, (0,)))
        self.assertEqual(told(self.check(ring((4, 1)), one)), ((), 0, 2, (0,)))
        self.assertEqual(told(self.check(one, ring((4, 1), part((), [K, P, P])))), ((), 0, 6, (2,)))
        self.assertEqual(told(self.check(one, ring((4, 1), block((6, -1), PLAIN)))), ((0, 2, 4, 6), 7, 1, ()))
        self.assertEqual(self.check(one, ring((4, 1), part([K], [K, P]))), NONE)

    def test_sizes_that_come_out_by_themselves(self):
        # Where a block is worked once or not at all, its rows may fit though else they don't.
        one = ring((4, 0), block((-3, 1), row([K], [K, K, K])), part((), [K]))
        self.assertEqual(self.check(one, ring((4, 0))), Sizes((), 3, 1, (0,)))
        uneven = ring((4, 0), block((2, -1), row([YO, K], [K, K, K])))
        self.assertEqual(told(self.check(ring((5, 0)), ring((5, 0), block((2, -1), row([YO, K], [K, P]))))),
                         ((1, 2), 3, 1, ()))
        self.assertEqual(told(self.check(uneven, ring((4, 0)))), ((2,), 3, 1, ()))

    def test_against_all_small_sizes(self):
        random = dice(341)
        some = 0
        for _ in range(400):
            one, two = random_piece(random), random_piece(random)
            loops = last_loops(one)
            cast = random.choice([two.cast, (loops.base, loops.rise), (loops.base, loops.rise), (loops.at(4), 0)])
            if not -99 <= cast[0] <= 99 or not -9 <= cast[1] <= 9:
                continue
            some += bool(self.check(one, Piece(one.way, cast, two.parts)))
        self.assertGreater(some, 25)

    def test_joined_the_cloth_goes_on(self):
        random = dice(342)
        some = 0
        for _ in range(200):
            one, two = random_piece(random), random_piece(random)
            loops = last_loops(one)
            if not -99 <= loops.base <= 99 or not -9 <= loops.rise <= 9:
                continue
            two = Piece(one.way, (loops.base, loops.rise), two.parts)
            try:
                piece = joined(one, two)
            except BadPiece:
                continue
            for size in where_goes_on(one, two).first(4):
                if size < 60:
                    some += 1
                    self.assertEqual(cloth(piece, size), cloth(one, size) + cloth(two, size))
        self.assertGreater(some, 30)

    def test_great_measures(self):
        # The common period may be above that of a set, where no set with it is told.
        wide, wider = [CABLE] * 29 + [("c2f", "a")], [CABLE] * 30
        one, two = ring((4, 1), part((), wide)), ring((4, 1), part((), wider))
        self.assertEqual([out_sizes(one).period, out_sizes(two).period], [118, 120])
        with self.assertRaises(BadSizes):
            where_goes_on(one, two)
        self.assertEqual(where_goes_on(one, ring((4, 1), part([K], wider))), NONE)
        self.assertEqual(where_goes_on(one, ring((4, 1), part((), wider), block((50, -1), PLAIN))), NONE)
        self.assertEqual(told(where_goes_on(one, ring((0, 2), part((), wider)))), ((), 0, 1, ()))


class TestParted(unittest.TestCase):
    def test_example(self):
        tog, plain = part([], [TOG]), part([], [K])
        head, tail = parted(Piece("round", (6, 4), (tog, plain)), 1)
        self.assertEqual([head.cast, tail.cast, tail.parts == (plain,), where_goes_on(head, tail).later],
                         [(6, 4), (3, 2), True, (0,)])

    def test_every_position_and_one_beyond(self):
        piece = flat((6, 4), part((), [TOG]), block((1, 2), row([YO], [K])), part([K], [K], [K]), part([BO], [K]))
        casts = [(6, 4), (3, 2), (4, 4), (4, 4), (3, 4)]
        for position, cast in enumerate(casts):
            pair = parted(piece, position)
            self.assertIsInstance(pair, tuple)
            head, tail = pair
            self.assertEqual((head.way, head.cast, head.parts), ("flat", (6, 4), piece.parts[:position]))
            self.assertEqual((tail.way, tail.cast, tail.parts), ("flat", cast, piece.parts[position:]))
        for position in [5, 6, 10 ** 30, -1, -5] + ODD_THINGS:
            with self.assertRaises(NoPart):
                parted(piece, position)
        self.assertEqual(parted(ring((1, 1)), 0)[1].cast, (1, 1))
        with self.assertRaises(NoPart):
            parted(ring((1, 1)), 1)

    def not_written(self, piece, position):
        with self.assertRaises(NotWritten) as caught:
            parted(piece, position)
        self.assertEqual(caught.exception.part, position)

    def test_a_fraction(self):
        piece = ring((6, 3), part((), [K]), part((), [TOG]), part((), [KFB]))
        self.assertEqual(parted(piece, 1)[1].cast, (6, 3))
        self.not_written(piece, 2)
        self.assertEqual(parted(piece, 3)[1].cast, (6, 3))
        self.not_written(ring((5, 4), part((), [TOG])), 1)
        self.assertEqual(parted(ring((0, 4), part((), [TOG] * 2)), 1)[1].cast, (0, 2))

    def test_numbers_that_no_line_has(self):
        self.assertEqual(parted(ring((49, 4), part([K], [KFB])), 1)[1].cast, (97, 8))
        self.assertEqual(parted(ring((50, 4), part([K], [KFB])), 1)[1].cast, (99, 8))
        self.not_written(ring((51, 4), part([K], [KFB])), 1)
        self.not_written(ring((49, 5), part([K], [KFB])), 1)
        self.assertEqual(parted(ring((0, 1), block((0, 4), row([YO, YO], [K]))), 1)[1].cast, (0, 9))
        self.not_written(ring((0, 2), block((0, 4), row([YO, YO], [K]))), 1)
        self.assertEqual(parted(ring((-98, 0), part([BO], [K])), 1)[1].cast, (-99, 0))
        self.not_written(ring((-99, 0), part([BO], [K])), 1)
        self.assertEqual(parted(ring((9, -9), part([K], [K])), 1)[1].cast, (9, -9))

    def test_joined_again_they_are_the_piece(self):
        random = dice(343)
        many = 0
        for _ in range(150):
            piece = random_piece(random)
            for position in range(len(piece.parts) + 1):
                lines = [spot.loops for spot in spots(piece) if spot.part == position] + [last_loops(piece)]
                try:
                    head, tail = parted(piece, position)
                except NotWritten:
                    self.assertTrue(lines[0].below != 1 or abs(lines[0].base) > 99 or abs(lines[0].rise) > 9)
                    continue
                self.assertEqual(tail.cast, (lines[0].base, lines[0].rise))
                self.assertEqual(lines[0].below, 1)
                again = joined(head, tail)
                self.assertEqual((again.way, again.cast, again.parts), (piece.way, piece.cast, piece.parts))
                self.assertTrue(compare(again, piece))
                many += 1
                for size in range(3):
                    if size in out_sizes(piece) and (piece.way == "round" or len(cloth(head, size)) % 2 == 0):
                        self.assertIn(size, where_goes_on(head, tail))
                        self.assertEqual(cloth_at(head, size) + cloth_at(tail, size), cloth_at(piece, size))
        self.assertGreater(many, 150)


if __name__ == "__main__":
    unittest.main()
