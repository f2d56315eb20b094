import unittest
from fractions import Fraction

from allstitches.counting import out_sizes
from allstitches.errors import Never, TooLong
from allstitches.faults import BadCount, BadEdge
from allstitches.gauging import nearest, where_between
from allstitches.reading import read_piece
from allstitches.seams import edge_of
from allstitches.sizes import Sizes
from tests.pairs import plain_piece
from tests.things import BO, K, ODD_THINGS, TOG, YO, block, dice, edge_at, flat, part, random_piece, ring, row, told

ALL = Sizes((), 0, 1, (0,))
NONE = Sizes((), 0, 1, ())
PLAIN = row((), [K])
EDGES = ("cast", "end", "side")
NO_EDGES = ["Cast", "ends", ""] + ODD_THINGS


class TestNearest(unittest.TestCase):
    def test_example(self):
        piece = read_piece("flat on 6 + 3 s\nrow *k, p*\n")
        self.assertEqual([nearest(piece, "cast", 61, 2), where_between(piece, "cast", 10, 30).first(9)],
                         [8, [2, 4, 6, 8]])

    def test_edges_that_grow_fall_and_stay(self):
        grow, fall, stay = flat((6, 3)), flat((60, -3)), flat((30, 0), block((2, 1), PLAIN))
        self.assertEqual([nearest(grow, "cast", wanted, 1) for wanted in (0, 6, 7, 8, 9, 30, 31, 32)],
                         [0, 0, 0, 1, 1, 8, 8, 9])
        self.assertEqual([nearest(fall, "cast", wanted, 1) for wanted in (0, 1, 2, 30, 31, 32, 60, 99)],
                         [20, 20, 19, 10, 10, 9, 0, 0])
        self.assertEqual([nearest(stay, "cast", wanted, 7) for wanted in (0, 210, 10 ** 6)], [0, 0, 0])
        self.assertEqual([nearest(stay, "side", wanted, 2) for wanted in (0, 5, 6, 7, 8)], [0, 0, 1, 1, 2])
        self.assertEqual(nearest(flat((30, 0), block((-4, 1), PLAIN)), "cast", 5, 1), 4)

    def test_between_two_sizes_at_the_same_distance(self):
        self.assertEqual(nearest(flat((6, 4)), "cast", 8, 1), 0)
        self.assertEqual(nearest(flat((6, 3)), "cast", 15, 2), 0)
        self.assertEqual(nearest(flat((6, 3)), "cast", 15001, 2000), 1)
        self.assertEqual(nearest(flat((6, 3)), "cast", 14999, 2000), 0)
        self.assertEqual(nearest(flat((60, -3)), "cast", 57 + 54, 2), 1)
        # Sizes that come out lie 2 and 3 apart.
        self.assertEqual(nearest(flat((6, 3), part((), [K, K])), "cast", 9, 1), 0)
        self.assertEqual(nearest(flat((6, 1), part((), [K] * 3)), "cast", 15, 2), 0)
        self.assertEqual(nearest(flat((6, 1), part((), [K] * 3)), "cast", 16, 2), 3)

    def test_far_from_all_sizes(self):
        self.assertEqual(nearest(flat((60, -3)), "cast", 10 ** 6, 1), 0)
        self.assertEqual(nearest(flat((60, -3), part([K] * 10, [K])), "cast", 0, 1), 16)
        self.assertEqual(nearest(flat((0, 1)), "cast", 10 ** 6, 1), 10 ** 6)
        self.assertEqual(nearest(flat((0, 1)), "cast", 10 ** 6, 10 ** 6), 1)
        self.assertEqual(nearest(flat((0, 1)), "cast", 1, 10 ** 6), 0)
        thin = [part((), [TOG])] * 5
        self.assertEqual(nearest(ring((0, 1), *thin), "end", 10 ** 6, 1), 32 * 10 ** 6)
        self.assertEqual(nearest(ring((0, 1), *thin), "end", 10 ** 6 - 1, 2), 32 * (10 ** 6 // 2 - 1))
        late = ring((0, 1), *thin, *[block((99, 0), row([BO] * 12, [K]))] * 33)
        low = out_sizes(late).least()
        self.assertEqual([nearest(late, "cast", 0, 1), nearest(late, "end", 5, 2)], [low, low + 64])

    def test_sizes_that_are_not_all_out(self):
        piece = flat((6, 3), part((), [K] * 5), block((9, -1), PLAIN))
        self.assertEqual(out_sizes(piece).first(9), [3, 8])
        self.assertEqual([nearest(piece, "cast", wanted, 1) for wanted in (0, 15, 22, 23, 99)], [3, 3, 3, 8, 8])
        # Those at which a block is worked once or not at all.
        scant = flat((4, 0), block((-3, 1), row([YO, K], [K, K, K])))
        self.assertEqual(out_sizes(scant).first(9), [3, 4])
        self.assertEqual([nearest(scant, "end", wanted, 2) for wanted in (0, 8, 9, 10, 99)], [3, 3, 3, 4, 4])
        self.assertEqual(nearest(scant, "cast", 9, 1), 3)

    def test_against_trying_sizes(self):
        random = dice(241)
        some = 0
        for _ in range(400):
            piece = random.choice([random_piece, plain_piece])(random)
            edge = random.choice(EDGES)
            above, below = random.randint(0, 60), random.randint(1, 5)
            sizes = out_sizes(piece).first(150)
            if not sizes:
                with self.assertRaises(Never):
                    nearest(piece, edge, above, below)
                continue
            some += 1
            base, rise, parted = edge_of(piece, edge)
            best = min(sizes, key=lambda size: (abs(Fraction(base + rise * size, parted) - Fraction(above, below)), size))
            if best < sizes[-1] or len(sizes) < 150:
                self.assertEqual(nearest(piece, edge, above, below), best)
        self.assertGreater(some, 200)

    def test_which_of_several_errors(self):
        never = flat((1, 2), part((), [K, K]))
        self.assertFalse(out_sizes(never))
        for edge in NO_EDGES:
            with self.assertRaises(BadEdge):
                nearest(never, edge, -1, 0)
        numbers = [1000001, -1, 10 ** 30] + ODD_THINGS
        for above, below in [(number, 1) for number in numbers] + [(1, number) for number in [0] + numbers]:
            for piece in (never, flat((4, 1))):
                with self.assertRaises(BadCount):
                    nearest(piece, "end", above, below)
        for edge in EDGES:
            for piece in (never, flat((-1, 0)), flat((4, 1), part([K] * 3)), flat((4, 1), block((-1, 0), PLAIN))):
                if piece is not never and out_sizes(piece):
                    continue
                with self.assertRaises(Never):
                    nearest(piece, edge, 5, 1)


class TestWhereBetween(unittest.TestCase):
    def check(self, piece, edge, low, high):
        found = where_between(piece, edge, low, high)
        self.assertIsInstance(found, Sizes)
        for size in range(40):
            many = edge_at(piece, edge, size)
            self.assertEqual(size in found, many is not None and low <= many <= high, (edge, low, high, size))
        return found

    def test_edges_that_grow_fall_and_stay(self):
        self.assertEqual(told(self.check(flat((6, 3)), "cast", 9, 15)), ((1, 2, 3), 4, 1, ()))
        self.assertEqual(told(self.check(flat((6, 3)), "cast", 10, 14)), ((2,), 3, 1, ()))
        self.assertEqual(self.check(flat((6, 3)), "cast", 10, 11), NONE)
        self.assertEqual(told(self.check(flat((30, -3)), "cast", 9, 15)), ((5, 6, 7), 8, 1, ()))
        self.assertEqual(told(self.check(flat((30, -3)), "cast", -9, 0)), ((10,), 11, 1, ()))
        self.assertEqual(self.check(flat((30, -3)), "cast", -9, 99), Sizes(tuple(range(11)), 11, 1, ()))
        self.assertEqual(self.check(flat((30, 0)), "cast", 30, 30), ALL)
        self.assertEqual(self.check(flat((30, 0)), "cast", 31, 35), NONE)
        self.assertEqual(self.check(flat((30, 0)), "end", 9, 29), NONE)
        self.assertEqual(told(self.check(flat((30, 0), block((2, 1), PLAIN)), "side", 5, 9)),
                         ((3, 4, 5, 6, 7), 8, 1, ()))

    def test_low_above_high(self):
        for edge in EDGES:
            for piece in (flat((6, 3)), flat((30, -3)), flat((5, 0))):
                self.assertEqual(self.check(piece, edge, 7, 6), NONE)
                self.assertEqual(self.check(piece, edge, 60, -60), NONE)

    def test_sizes_that_are_not_all_out(self):
        piece = flat((6, 3), part((), [K, K]))
        self.assertEqual(told(self.check(piece, "cast", 0, 30)), ((0, 2, 4, 6, 8), 9, 1, ()))
        self.assertEqual(told(self.check(flat((6, 3), part((), [TOG])), "end", 4, 9)), ((2, 4), 5, 1, ()))
        scant = flat((4, 0), block((-3, 1), row([YO, K], [K, K, K])))
        self.assertEqual(told(self.check(scant, "end", 5, 9)), ((4,), 5, 1, ()))
        self.assertEqual(told(self.check(scant, "cast", 4, 9)), ((3, 4), 5, 1, ()))

    def test_against_knitting(self):
        random = dice(242)
        some = 0
        for _ in range(400):
            piece = random.choice([random_piece, plain_piece])(random)
            low = random.randint(-3, 40)
            some += bool(self.check(piece, random.choice(EDGES), low, low + random.randint(-1, 30)))
        self.assertGreater(some, 100)

    def test_what_turns_at_5040_and_beyond(self):
        line = ring((0, 1))
        self.assertEqual(where_between(line, "cast", 5000, 5039).many, 40)
        self.assertEqual(told(where_between(line, "cast", 0, 5039))[1:], (5040, 1, ()))
        self.assertEqual(told(where_between(line, "cast", 5040, 5039)), ((), 0, 1, ()))
        for low, high in [(0, 5040), (5041, 5039), (5041, 6000), (5041, 10), (0, 10 ** 30), (10 ** 30, 3)]:
            with self.assertRaises(TooLong):
                where_between(line, "cast", low, high)
        self.assertEqual(where_between(line, "end", 5040, 5039), NONE)
        # Also where such sizes do not come out.
        falling = ring((5, -1))
        self.assertEqual(where_between(falling, "cast", -5034, 10 ** 9).many, 6)
        self.assertEqual(where_between(falling, "cast", -5035, 9).many, 6)
        with self.assertRaises(TooLong):
            where_between(falling, "cast", -5036, 9)
        self.assertEqual(where_between(ring((5, 0)), "cast", -10 ** 30, 10 ** 30), ALL)
        self.assertEqual(where_between(ring((0, 1), part((), [TOG, TOG])), "end", 1, 2519).many, 1259)
        with self.assertRaises(TooLong):
            where_between(ring((0, 1), part((), [TOG, TOG])), "end", 1, 2520)

    def test_which_of_several_errors(self):
        for edge in NO_EDGES:
            with self.assertRaises(BadEdge):
                where_between(ring((0, 1)), edge, None, 10 ** 9)
        for thing in [thing for thing in ODD_THINGS if type(thing) is not int]:
            for low, high in [(thing, 10 ** 9), (10 ** 9, thing), (thing, thing)]:
                with self.assertRaises(BadCount):
                    where_between(ring((0, 1)), "end", low, high)


if __name__ == "__main__":
    unittest.main()
