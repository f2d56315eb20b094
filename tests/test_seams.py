import unittest
from math import gcd, lcm

from allstitches.counting import out_sizes
from allstitches.errors import BadPiece, StitchError, TooLong
from allstitches.faults import BadEdge
from allstitches.pieces import Piece, measure_of
from allstitches.reading import read_piece
from allstitches.seams import edge_of, where_all, where_picked, where_seam
from allstitches.sizes import Sizes
from allstitches.turning import inside_out, mirrored, turned
from tests.pairs import plain_piece
from tests.things import (BO, CABLE, K, KFB, ODD_THINGS, TOG, YO, block, by_another, dice, edge_at, flat, part,
                          random_piece, ring, row, told)

ALL = Sizes((), 0, 1, (0,))
NONE = Sizes((), 0, 1, ())
PLAIN = row((), [K])
EDGES = ("cast", "end", "side")
NO_EDGES = ["Cast", "cast ", "ends", "sides", "top", "c", "castend"] + ODD_THINGS
# Measures 60, 56 and 88: the first two have just 840 in common, the first and the last one 1320.
WIDE = ring((0, 1), part((), [CABLE] * 15))
SEVEN = ring((0, 1), part((), [K] * 7), block((0, 0), *[PLAIN] * 4))
ELEVEN = ring((0, 1), part((), [K] * 11), block((0, 0), *[PLAIN] * 4))


class TestEdgeOf(unittest.TestCase):
    def test_example(self):
        one, other = read_piece("flat on 6 + 2 s\nblock 4 + 4 s\n  *k*\n"), read_piece("flat on 3 + 3 s\nrow *p*\n")
        self.assertEqual([edge_of(one, "side"), where_seam(one, "cast", other, "end").first(3),
                          where_picked(one, "side", other, 3, 4).many], [(4, 4, 1), [3], None])

    def check(self, piece, *edges):
        for edge, line in zip(EDGES, edges):
            found = edge_of(piece, edge)
            self.assertIsInstance(found, tuple)
            self.assertEqual(found, line)

    def test_without_rows(self):
        self.check(flat((6, 2)), (6, 2, 1), (6, 2, 1), (0, 0, 1))
        self.check(flat((0, 0)), (0, 0, 1), (0, 0, 1), (0, 0, 1))
        self.check(ring((99, -9)), (99, -9, 1), (99, -9, 1), (0, 0, 1))

    def test_rows(self):
        self.check(flat((6, 4), part((), [TOG])), (6, 4, 1), (3, 2, 1), (1, 0, 1))
        self.check(flat((6, 3), part((), [TOG])), (6, 3, 1), (6, 3, 2), (1, 0, 1))
        self.check(flat((6, 3), part((), [TOG]), part([K], [KFB])), (6, 3, 1), (5, 3, 1), (2, 0, 1))
        self.check(flat((6, 3), part([K] * 5)), (6, 3, 1), (5, 0, 1), (1, 0, 1))
        self.check(flat((6, 3), part([K, BO], [BO])), (6, 3, 1), (1, 0, 1), (1, 0, 1))
        self.check(flat((4, 2), part((), [TOG, TOG]), part((), [TOG])), (4, 2, 1), (2, 1, 2), (2, 0, 1))
        self.check(flat((5, 1), part([K], [TOG], [YO])), (5, 1, 1), (8, 1, 2), (1, 0, 1))

    def test_blocks(self):
        self.check(flat((6, 2), block((1, 3), row([YO], [K]), PLAIN)), (6, 2, 1), (7, 5, 1), (2, 6, 1))
        self.check(flat((6, 2), block((0, 0), row([YO], [K]))), (6, 2, 1), (6, 2, 1), (0, 0, 1))
        self.check(flat((6, 2), block((9, -1), row([BO], [K])), part((), [K])), (6, 2, 1), (-3, 3, 1), (10, -1, 1))
        self.check(flat((6, 2), block((1, 1), PLAIN), block((2, -1), PLAIN, PLAIN)), (6, 2, 1), (6, 2, 1), (5, -1, 1))

    def test_against_knitting(self):
        random = dice(191)
        for _ in range(300):
            piece = random_piece(random)
            for edge in EDGES:
                base, rise, below = edge_of(piece, edge)
                self.assertGreater(below, 0)
                self.assertEqual(gcd(base, rise, below), 1)
                for size in range(12):
                    many = edge_at(piece, edge, size)
                    if many is not None:
                        self.assertEqual(base + rise * size, many * below)

    def test_bad_edges(self):
        for edge in NO_EDGES:
            with self.assertRaises(BadEdge):
                edge_of(flat((4, 1)), edge)

    def test_edges_of_pieces_written_again(self):
        random = dice(192)
        some = 0
        for _ in range(200):
            piece = random_piece(random)
            for change in (turned, mirrored, inside_out):
                try:
                    other = change(piece)
                except StitchError:
                    continue
                found = where_all([(piece, edge, other, edge) for edge in EDGES])
                self.assertEqual(found, out_sizes(piece))
                some += bool(found)
        self.assertGreater(some, 100)

    def test_another_line_in_the_place_of_the_size(self):
        random = dice(193)
        some = 0
        for _ in range(300):
            piece = random_piece(random)
            line = (random.randint(0, 4), random.choice([0, 1, 1, 2, 3]))
            other = by_another(piece, line)
            if other is None:
                continue
            for size in range(8):
                there = line[0] + line[1] * size
                self.assertEqual(size in out_sizes(other), there in out_sizes(piece))
                if size in out_sizes(other):
                    some += 1
                    for edge in EDGES:
                        (base, rise, below), mine = edge_of(piece, edge), edge_of(other, edge)
                        self.assertEqual((base + rise * there) * mine[2], (mine[0] + mine[1] * size) * below)
        self.assertGreater(some, 200)


class TestWhereSeam(unittest.TestCase):
    def check(self, one, edge, other, there, end=30):
        found = where_seam(one, edge, other, there)
        self.assertIsInstance(found, Sizes)
        for size in range(end):
            here = edge_at(one, edge, size)
            self.assertEqual(size in found, here is not None and here == edge_at(other, there, size), (size, edge))
        return found

    def test_equal_at_all_sizes(self):
        self.assertEqual(self.check(flat((6, 2)), "cast", ring((6, 2)), "end"), ALL)
        self.assertEqual(self.check(flat((6, 4), part((), [TOG])), "end", flat((3, 2)), "cast"), ALL)
        self.assertEqual(self.check(flat((6, 4), block((3, 2), PLAIN)), "side", flat((3, 2)), "cast"), ALL)
        self.assertEqual(self.check(flat((6, 4)), "side", flat((0, 0)), "end"), ALL)

    def test_equal_at_one_size_or_none(self):
        self.assertEqual(told(self.check(flat((6, 2)), "cast", flat((3, 3)), "cast")), ((3,), 4, 1, ()))
        self.assertEqual(told(self.check(flat((6, 2)), "cast", flat((6, 3)), "cast")), ((0,), 1, 1, ()))
        self.assertEqual(self.check(flat((6, 2)), "cast", flat((7, 2)), "cast"), NONE)
        self.assertEqual(self.check(flat((6, 2)), "cast", flat((9, 4)), "cast"), NONE)
        self.assertEqual(self.check(flat((6, 2)), "cast", flat((7, 3)), "cast"), NONE)
        # It is one at which one of both does not come out.
        odd = flat((3, 3), part((), [K, K]))
        self.assertEqual(told(self.check(flat((6, 2)), "end", odd, "end")), ((3,), 4, 1, ()))
        self.assertEqual(self.check(flat((7, 1)), "end", odd, "end"), NONE)
        self.assertEqual(self.check(odd, "end", flat((7, 1)), "end"), NONE)
        self.assertEqual(self.check(odd, "side", flat((7, -3)), "end"), NONE)
        # Both fall below 0.
        self.assertEqual(self.check(flat((2, -1)), "cast", flat((1, -9)), "cast"), NONE)

    def test_equal_on_a_class(self):
        one, other = flat((6, 2), part((), [K, K, K])), flat((6, 2), part([K], [K]))
        self.assertEqual(told(self.check(one, "cast", other, "end")), ((), 0, 3, (0,)))
        self.assertEqual(told(self.check(other, "cast", one, "cast")), ((), 0, 3, (0,)))
        two = flat((1, 1), part((), [K] * 4))
        self.assertEqual(told(self.check(two, "side", one, "side")), ((), 0, 12, (3,)))
        self.assertEqual(self.check(flat((1, 2), part((), [K] * 2)), "side", one, "side"), NONE)

    def test_sizes_at_which_only_one_comes_out(self):
        falling = flat((9, -2), part([K], [K]))
        self.assertEqual(told(self.check(falling, "side", flat((2, 1), part([K], [K])), "side")),
                         ((0, 1, 2, 3, 4), 5, 1, ()))
        late = flat((4, 0), block((-3, 1), PLAIN))
        self.assertEqual(told(self.check(late, "cast", flat((4, 0)), "cast")), ((), 3, 1, (0,)))
        self.assertEqual(told(self.check(late, "cast", flat((4, 0), block((5, -1), PLAIN)), "end")),
                         ((3, 4, 5), 6, 1, ()))
        # A block that comes out worked once or not at all.
        scant = flat((4, 0), block((-3, 1), row([YO, K], [K, K, K])))
        self.assertEqual(told(self.check(scant, "cast", flat((4, 0)), "cast")), ((3, 4), 5, 1, ()))
        self.assertEqual(told(self.check(scant, "side", flat((-3, 1)), "cast")), ((3, 4), 5, 1, ()))

    def test_great_sizes(self):
        thin = [part((), [TOG])] * 5
        one, other = ring((0, 1), *thin), ring((99, 0), *[part((), [K])] * 30)
        self.assertEqual(told(where_seam(one, "end", other, "end")), ((3168,), 3169, 1, ()))
        self.assertEqual(told(where_seam(one, "end", other, "side")), ((960,), 961, 1, ()))
        more = ring((99, 0), *[block((99, 0), row([YO] * 3, [K]))] * 7)
        self.assertEqual(told(where_seam(one, "end", more, "end")), ((69696,), 69697, 1, ()))
        # A set of sizes that begins far out does not hinder one that ends soon.
        late = ring((0, 1), *thin, *[block((99, 0), row([BO] * 12, [K]))] * 33)
        self.assertEqual(where_seam(late, "cast", ring((50, -1)), "cast"), NONE)
        self.assertEqual(where_seam(late, "cast", ring((0, 1), block((70, -1), PLAIN)), "cast"), NONE)

    def test_against_knitting(self):
        random = dice(194)
        some = 0
        for _ in range(500):
            make = random.choice([random_piece, plain_piece])
            one, other = make(random), make(random)
            if lcm(measure_of(one.parts), measure_of(other.parts)) > 840:
                continue
            edge, there = random.choice(EDGES), random.choice(EDGES)
            base, rise, below = edge_of(one, edge)
            if random.random() < 0.4 and below == 1 and abs(base) < 99 and abs(rise) < 9:
                there, other = "cast", Piece("flat", (base, rise), other.parts)
            some += bool(self.check(one, edge, other, there, 25))
        self.assertGreater(some, 40)

    def test_bad_edges(self):
        for edge in NO_EDGES:
            for edges in [(edge, "end"), ("side", edge), (edge, edge)]:
                with self.assertRaises(BadEdge):
                    where_seam(WIDE, edges[0], ELEVEN, edges[1])

    def test_measures(self):
        self.assertEqual([measure_of(piece.parts) for piece in (WIDE, SEVEN, ELEVEN)], [60, 56, 88])
        self.assertEqual(told(where_seam(WIDE, "cast", SEVEN, "cast")), ((), 0, 420, (0,)))
        self.assertEqual(told(where_seam(SEVEN, "cast", ELEVEN, "end")), ((), 0, 77, (0,)))
        with self.assertRaises(TooLong):
            where_seam(ELEVEN, "cast", WIDE, "cast")
        with self.assertRaises(TooLong):
            where_seam(WIDE, "side", ELEVEN, "end")


class TestWhereAll(unittest.TestCase):
    def test_no_seams(self):
        self.assertEqual(where_all([]), ALL)

    def test_several(self):
        one, two, three = flat((6, 2)), flat((6, 2), part((), [K, K, K])), flat((4, 3))
        self.assertEqual(where_all([(one, "cast", one, "end")]), ALL)
        self.assertEqual(told(where_all([(one, "cast", one, "end"), (two, "cast", one, "end")])), ((), 0, 3, (0,)))
        self.assertEqual(where_all([(one, "cast", three, "end"), (two, "cast", one, "end")]), NONE)
        self.assertEqual(told(where_all([(one, "cast", three, "end"), (three, "cast", one, "end")])),
                         ((2,), 3, 1, ()))
        two = flat((6, 2), part((), [K, K]))
        self.assertEqual(told(where_all([(one, "cast", two, "end"), (two, "side", two, "side"),
                                         (three, "cast", two, "cast")])), ((2,), 3, 1, ()))
        self.assertEqual(where_all([(one, "cast", three, "end"), (one, "cast", flat((5, 3)), "end")]), NONE)
        self.assertEqual(where_all([(one, "cast", three, "end"), (one, "side", two, "side")]), NONE)

    def test_it_is_what_all_have(self):
        random = dice(195)
        some = 0
        for _ in range(250):
            pieces = [plain_piece(random) for _ in range(3)]
            seams = [(random.choice(pieces), random.choice(EDGES), random.choice(pieces), random.choice(EDGES))
                     for _ in range(random.randint(1, 3))]
            try:
                found = where_all(seams)
            except TooLong:
                continue
            common = ALL
            for seam in seams:
                common = common & where_seam(*seam)
            self.assertEqual(found, common)
            some += bool(found)
        self.assertGreater(some, 20)

    def test_errors(self):
        right = (WIDE, "cast", SEVEN, "end")
        for edge in NO_EDGES:
            with self.assertRaises(BadEdge):
                where_all([right, (WIDE, "cast", ELEVEN, "cast"), (WIDE, "side", WIDE, edge)])
            with self.assertRaises(BadEdge):
                where_all([right, (WIDE, edge, WIDE, "side"), right])
        # Each two of them have a common measure that is not above 840, but not all three.
        pieces = [ring((4, 1), block((0, 0), *[PLAIN] * many)) for many in (16, 3, 5)]
        pieces.append(ring((4, 1), part((), [K] * 7)))
        self.assertEqual([measure_of(piece.parts) for piece in pieces], [32, 12, 20, 14])
        seams = [(pieces[0], "cast", pieces[1], "cast"), (pieces[2], "cast", pieces[0], "cast")]
        self.assertTrue(where_all(seams))
        with self.assertRaises(TooLong):
            where_all(seams + [(pieces[3], "cast", pieces[3], "cast")])
        self.assertTrue(where_all(seams[1:] + [(pieces[2], "cast", pieces[2], "cast")]))

    def test_the_list_is_not_changed(self):
        seams = [(flat((6, 2)), "cast", flat((6, 2)), "end")]
        kept = list(seams)
        where_all(seams)
        self.assertEqual(seams, kept)


class TestWherePicked(unittest.TestCase):
    def check(self, one, edge, other, take, units, end=60):
        found = where_picked(one, edge, other, take, units)
        for size in range(end):
            here, cast = edge_at(one, edge, size), edge_at(other, "cast", size)
            right = None not in (here, cast) and here % units == 0 and cast == here // units * take
            self.assertEqual(size in found, right, (size, edge, take, units))
        return found

    def test_units_that_divide_and_do_not(self):
        side = flat((6, 2), block((4, 4), PLAIN))
        self.assertEqual(self.check(side, "side", flat((3, 3)), 3, 4), ALL)
        self.assertEqual(told(self.check(flat((6, 2), block((4, 2), PLAIN)), "side", flat((2, 1)), 2, 4)),
                         ((), 0, 2, (0,)))
        self.assertEqual(told(self.check(flat((4, 2)), "cast", flat((2, 1)), 3, 6)), ((), 0, 3, (1,)))
        self.assertEqual(self.check(flat((5, 2)), "cast", flat((2, 1)), 3, 6), NONE)
        self.assertEqual(self.check(flat((4, 2)), "end", flat((4, 2)), 1, 1), ALL)
        self.assertEqual(told(self.check(flat((4, 2)), "end", flat((4, 2)), 5, 5)), ((), 0, 5, (3,)))

    def test_one_size_or_none(self):
        self.assertEqual(told(self.check(flat((4, 2)), "end", flat((8, 1)), 1, 1)), ((4,), 5, 1, ()))
        self.assertEqual(told(self.check(flat((4, 2)), "end", flat((8, 1)), 3, 3)), ((4,), 5, 1, ()))
        self.assertEqual(self.check(flat((4, 2)), "end", flat((8, 1)), 5, 5), NONE)
        self.assertEqual(self.check(flat((4, 2)), "end", flat((9, 4)), 2, 1), NONE)
        self.assertEqual(self.check(flat((5, 0)), "end", flat((5, 0)), 2, 2), NONE)
        self.assertEqual(self.check(flat((0, 0)), "end", flat((0, 0)), 60, 60), ALL)

    def test_sixty(self):
        self.assertEqual(told(self.check(flat((0, 1)), "cast", flat((0, 1)), 60, 60, 150)), ((), 0, 60, (0,)))
        self.assertEqual(self.check(flat((0, 1)), "cast", flat((0, 9)), 9, 1), ALL)
        self.assertEqual(told(self.check(flat((60, 0)), "cast", flat((9, -1)), 1, 60)), ((8,), 9, 1, ()))
        self.assertEqual(told(self.check(flat((1, 0)), "cast", flat((0, 5)), 60, 1)), ((12,), 13, 1, ()))
        self.assertEqual(self.check(flat((1, 0)), "cast", flat((60, 0)), 60, 1), ALL)

    def test_sizes_at_which_only_one_comes_out(self):
        one = flat((4, 2), part((), [K, K, K]))
        self.assertEqual(told(self.check(one, "side", flat((0, 1)), 1, 1)), ((1,), 2, 1, ()))
        self.assertEqual(told(self.check(one, "cast", flat((2, 1)), 1, 2)), ((), 0, 3, (1,)))
        self.assertEqual(told(self.check(one, "cast", flat((2, 1), part([K], [K, K])), 1, 2)), ((), 0, 6, (1,)))
        self.assertEqual(told(self.check(flat((4, 2)), "cast", flat((2, 1), block((-5, 1), PLAIN)), 1, 2)),
                         ((), 5, 1, (0,)))

    def test_against_knitting(self):
        random = dice(196)
        some = 0
        for _ in range(500):
            make = random.choice([random_piece, plain_piece])
            one, other = make(random), make(random)
            edge, take, units = random.choice(EDGES), random.randint(1, 8), random.randint(1, 8)
            base, rise, below = edge_of(one, edge)
            if random.random() < 0.6:
                cast = (base * take // (below * units), rise * take // (below * units))
                try:
                    other = Piece("round", cast, other.parts)
                except BadPiece:
                    continue
            if lcm(measure_of(one.parts), measure_of(other.parts), take) <= 840:
                some += bool(self.check(one, edge, other, take, units, 30))
        self.assertGreater(some, 30)

    def test_bad_edges_and_numbers(self):
        for edge in NO_EDGES:
            with self.assertRaises(BadEdge):
                where_picked(WIDE, edge, ELEVEN, 1, 1)
        for number in [0, 61, 10 ** 20, -3] + ODD_THINGS:
            with self.assertRaises(BadEdge):
                where_picked(WIDE, "cast", ELEVEN, number, 1)
            with self.assertRaises(BadEdge):
                where_picked(WIDE, "cast", ELEVEN, 1, number)

    def test_measures(self):
        one, two = ring((0, 1), block((0, 0), *[PLAIN] * 4)), ring((0, 1), part((), [K] * 7))
        self.assertEqual([measure_of(one.parts), measure_of(two.parts)], [8, 14])
        self.assertTrue(where_picked(one, "cast", two, 15, 15))
        self.assertTrue(where_picked(one, "cast", two, 1, 59))
        self.assertTrue(where_picked(SEVEN, "cast", ELEVEN, 1, 60))
        for take in (2, 9, 11, 15, 16, 45, 59, 60):
            with self.subTest(take=take):
                self.picked_or_too_long(one, two, 56, take)
                self.picked_or_too_long(SEVEN, ELEVEN, 616, take)
                self.picked_or_too_long(WIDE, WIDE, 60, take)
        with self.assertRaises(TooLong):
            where_picked(WIDE, "cast", ELEVEN, 1, 1)

    def picked_or_too_long(self, one, two, common, take):
        if lcm(common, take) <= 840:
            self.assertTrue(where_picked(one, "cast", two, take, take))
            return
        with self.assertRaises(TooLong):
            where_picked(one, "cast", two, take, take)


if __name__ == "__main__":
    unittest.main()
