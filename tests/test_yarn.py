import unittest
from fractions import Fraction
from math import gcd, lcm

from allstitches.counting import out_sizes
from allstitches.errors import StitchError, TooLong
from allstitches.faults import BadCount
from allstitches.pieces import measure_of
from allstitches.reading import read_piece
from allstitches.sizes import Sizes
from allstitches.turning import inside_out, mirrored, turned
from allstitches.yarn import Amount, amount, where_more, where_most
from tests.pairs import plain_piece
from tests.things import (BO, CABLE, K, KFB, ODD_THINGS, P, TOG, YO, block, by_another, cloth_at, dice, flat, part,
                          random_piece, ring, row, told)

ALL = Sizes((), 0, 1, (0,))
NONE = Sizes((), 0, 1, ())
B = ("k", "b")
PLAIN = row((), [K])
WIDE = ring((0, 1), part((), [CABLE] * 15))
ELEVEN = ring((0, 1), part((), [K] * 11), block((0, 0), *[PLAIN] * 4))
NO_COUNTS = ["All", "", "kind", "yarn", "k", "a", ("all",), ("all", "k"), ("kind",), ("kind", "x"), ("kind", "a"),
             ("yarn", "k2tog"), ("yarn", "A"), ("yarn", ""), ("yarn", "aa"), ("yarn", "a", "b"), ("kind", "k", "a"),
             ("kinds", "k"), ["kind", "k"], ["yarn", "a"], ("kind", True), ("kind", ["k"]), ("yarn", None), ("k", "a"),
             ("yarn", ("a",)), (["kind"], "k")] + ODD_THINGS


def counted(piece, what, size):
    """How many cells there are at a size, by its cloth; None if it does not come out."""
    looks = cloth_at(piece, size)
    if looks is None:
        return None
    cells = [cell for look in looks for cell in look]
    if what == "all":
        return len(cells)
    return sum(cell["kind yarn".split().index(what[0])] == what[1] for cell in cells)


def value(found, size):
    base, rise, curve, below = found.told()
    return Fraction(base + rise * size + curve * size * size, below)


def polynomial(base, rise=0, curve=0, below=1):
    """An Amount, made of amounts of pieces: of (s + 99) * (s + 1) cells and of such with less rounds or loops."""
    one = amount(flat((0, 0), part([YO])), "all")
    line = amount(flat((0, 1), part((), [K])), "all")
    square = amount(flat((0, 1), block((0, 1), PLAIN)), "all")
    return one.times(base, 1).plus(line, rise).plus(square, curve).times(1, below)


class TestAmount(unittest.TestCase):
    def test_example(self):
        piece = read_piece("flat on 4 + 2 s\nblock 1 + s\n  *k*\n  kfb, *p/b*\n")
        self.assertEqual([amount(piece, "all").told(), amount(piece, ("yarn", "b")).told(),
                          where_most(piece, "all", 30).many], [(8, 13, 5, 1), (6, 11, 5, 2), 2])

    def check(self, piece, what, *numbers):
        found = amount(piece, what)
        self.assertIsInstance(found, Amount)
        self.assertEqual(found.told(), numbers)
        self.assertEqual((found.base, found.rise, found.curve, found.below), numbers)

    def test_without_rows(self):
        self.check(flat((6, 2)), "all", 0, 0, 0, 1)
        self.check(flat((6, 2)), ("kind", "k"), 0, 0, 0, 1)
        self.check(flat((0, 0), part()), "all", 0, 0, 0, 1)

    def test_rows(self):
        self.check(flat((6, 2), part((), [K])), "all", 6, 2, 0, 1)
        self.check(flat((6, 2), part((), [K]), part([K], [P])), "all", 12, 4, 0, 1)
        self.check(flat((6, 2), part([K, YO, BO])), "all", 3, 0, 0, 1)
        self.check(flat((6, 3), part([YO], [TOG], [K])), "all", 9, 3, 0, 2)
        self.check(flat((6, 3), part((), [TOG]), part((), [K])), "all", 6, 3, 0, 1)
        self.check(flat((6, 3), part((), [KFB])), "all", 6, 3, 0, 1)
        self.check(flat((6, 3), part((), [KFB]), part((), [K])), "all", 18, 9, 0, 1)
        self.check(flat((6, 4), part((), [K, YO, K])), "all", 9, 6, 0, 1)

    def test_kinds_and_yarns(self):
        piece = flat((6, 2), part([K, B], [B, P], [TOG, YO]))
        self.check(piece, "all", 6, 2, 0, 1)
        self.check(piece, ("kind", "k"), 3, 1, 0, 1)
        # On the wrong side knit cells are seen as purl ones.
        self.check(flat((6, 2), part((), [K]), part((), [K])), ("kind", "k"), 12, 4, 0, 1)

    def test_what_is_counted_is_what_rows_tell(self):
        piece = ring((6, 2), part([K, B], [B, P], [TOG, YO]))
        self.check(piece, ("kind", "k"), 3, 1, 0, 1)
        self.check(piece, ("kind", "p"), 1, 1, 0, 1)
        self.check(piece, ("kind", "yo"), 1, 0, 0, 1)
        self.check(piece, ("kind", "cdd"), 0, 0, 0, 1)
        self.check(piece, ("yarn", "b"), 2, 1, 0, 1)
        self.check(piece, ("yarn", "a"), 4, 1, 0, 1)
        self.check(piece, ("yarn", "z"), 0, 0, 0, 1)

    def test_blocks(self):
        self.check(flat((6, 2), block((3, 0), PLAIN)), "all", 18, 6, 0, 1)
        self.check(flat((6, 2), block((0, 0), PLAIN)), "all", 0, 0, 0, 1)
        self.check(flat((6, 0), block((0, 2), PLAIN, row([K], [P]))), "all", 0, 24, 0, 1)
        self.check(flat((6, 2), block((1, 1), PLAIN)), "all", 6, 8, 2, 1)
        # One loop more in each round, 6, 7, 8, ..; the group has one cell less.
        self.check(flat((6, 0), block((0, 1), row([KFB], [K]))), "all", 0, 11, 1, 2)
        self.check(flat((6, 0), block((4, 0), row([KFB], [K]))), "all", 30, 0, 0, 1)
        self.check(flat((9, 0), block((4, 0), row([BO], [K]))), "all", 30, 0, 0, 1)
        self.check(flat((9, 0), block((0, 1), row([BO], [K]))), "all", 0, 19, -1, 2)
        self.check(flat((6, 0), block((0, 3), row([KFB], [K]))), "all", 0, 33, 9, 2)
        # The second row of a round has one loop more than the first.
        self.check(flat((6, 0), block((2, 0), PLAIN, row([KFB], [K]))), "all", 26, 0, 0, 1)
        self.check(flat((6, 0), block((2, 0), row([KFB], [K]), PLAIN)), "all", 28, 0, 0, 1)
        self.check(flat((6, 0), block((0, 1), row([YO, YO], [K, P]))), ("kind", "p"), 0, 5, 1, 2)
        self.check(flat((6, 0), block((0, 1), row([YO, YO], [K, P]))), ("kind", "yo"), 0, 2, 0, 1)
        self.check(flat((6, 3), block((0, 1), row([K] * 6))), "all", 0, 6, 0, 1)
        # Rows behind it have as many loops more.
        self.check(flat((6, 0), block((0, 1), row([YO, YO], [K])), part((), [P])), ("kind", "p"), 6, 2, 0, 1)

    def test_against_knitting(self):
        random = dice(201)
        some = 0
        for _ in range(400):
            piece = random.choice([random_piece, lambda dice: plain_piece(dice, "abc")])(random)
            piece = type(piece)("round", piece.cast, piece.parts)
            for what in ["all", ("kind", random.choice(["k", "p", "yo", "k2tog"])), ("yarn", random.choice("abc"))]:
                found = amount(piece, what)
                base, rise, curve, below = found.told()
                self.assertEqual((gcd(base, rise, curve, below), below > 0), (1, True))
                for size in range(10):
                    many = counted(piece, what, size)
                    if many is not None:
                        some += size > 0
                        self.assertEqual(value(found, size), many)
                        self.assertEqual(found.at(size), many)
        self.assertGreater(some, 1000)

    def test_the_polynomial_at_sizes_that_do_not_come_out(self):
        piece = flat((5, 1), part((), [TOG]))
        self.check(piece, "all", 5, 1, 0, 2)
        self.assertEqual([amount(piece, "all").at(size) for size in range(4)], [2, 3, 3, 4])
        piece = flat((-5, 1), part([K], [TOG]))
        self.assertEqual([amount(piece, "all").at(size) for size in (0, 1, 2, 3, 10 ** 30)],
                         [-2, -2, -1, -1, 5 * 10 ** 29 - 2])
        # The change of a block whose group can't be parted from round to round.
        piece = flat((4, 0), block((0, 1), row([KFB], [K, K])))
        self.assertEqual(told(out_sizes(piece)), ((0,), 1, 1, ()))
        self.assertEqual([value(amount(piece, "all"), size) for size in range(3)],
                         [0, 1 + 2 * Fraction(3, 2), 2 + 2 * (Fraction(3, 2) + Fraction(4, 2))])

    def test_lowest_terms(self):
        self.check(flat((6, 4), part((), [TOG])), "all", 3, 2, 0, 1)
        self.check(flat((6, 3), part((), [TOG])), "all", 6, 3, 0, 2)
        self.check(flat((6, 4), part((), [TOG, TOG]), part((), [K])), "all", 6, 4, 0, 1)
        self.check(flat((6, 3), part((), [TOG, TOG])), "all", 6, 3, 0, 2)

    def test_cells_of_pieces_written_again(self):
        random = dice(202)
        some = 0
        for _ in range(200):
            piece = random_piece(random)
            for change in (turned, mirrored, inside_out):
                try:
                    other = change(piece)
                except StitchError:
                    continue
                for what in ["all", ("yarn", "a"), ("yarn", "b"), ("kind", "yo")]:
                    self.assertEqual(out_sizes(other), out_sizes(piece))
                    for size in out_sizes(piece).first(5):
                        some += 1
                        self.assertEqual(amount(other, what).at(size), amount(piece, what).at(size))
        self.assertGreater(some, 1000)

    def test_another_line_in_the_place_of_the_size(self):
        random = dice(203)
        some = 0
        for _ in range(300):
            piece = random_piece(random)
            line = (random.randint(0, 4), random.choice([0, 1, 1, 2, 3]))
            other = by_another(piece, line)
            if other is not None:
                some += 1
                for what in ["all", ("kind", "k")]:
                    for size in out_sizes(other).first(4):
                        there = line[0] + line[1] * size
                        self.assertEqual(amount(other, what).at(size), amount(piece, what).at(there))
        self.assertGreater(some, 100)

    def test_bad_counts(self):
        for what in NO_COUNTS:
            with self.assertRaises(BadCount):
                amount(flat((4, 1)), what)


class TestSums(unittest.TestCase):
    def test_plus(self):
        one, other = polynomial(4, 2, 1, 3), polynomial(1, 1, 0, 2)
        self.assertEqual(one.plus(other).told(), (11, 7, 2, 6))
        self.assertEqual(one.plus(other, -1).told(), (5, 1, 2, 6))
        self.assertEqual(one.plus(other, 0).told(), one.told())
        self.assertEqual(one.plus(other, factor=6).told(), (13, 11, 1, 3))
        self.assertEqual(one.plus(one, -1).told(), (0, 0, 0, 1))
        self.assertEqual(one.plus(one, 2).told(), (4, 2, 1, 1))
        # Neither of both is changed.
        self.assertEqual([one.told(), other.told()], [(4, 2, 1, 3), (1, 1, 0, 2)])

    def test_times(self):
        one = polynomial(4, 2, 6, 3)
        self.assertEqual(one.times(3, 2).told(), (2, 1, 3, 1))
        self.assertEqual(one.times(0, 5).told(), (0, 0, 0, 1))
        self.assertEqual(one.times(-1, 4).told(), (-2, -1, -3, 6))
        self.assertEqual(one.times(1, -4).told(), (-2, -1, -3, 6))
        self.assertEqual(one.times(-3, -2).told(), (2, 1, 3, 1))
        self.assertEqual(one.told(), (4, 2, 6, 3))

    def test_at_is_rounded_down(self):
        one = polynomial(-1, 1, 0, 3)
        self.assertEqual([one.at(size) for size in range(6)], [-1, 0, 0, 0, 1, 1])


class TestWherePositive(unittest.TestCase):
    def check(self, found, form):
        self.assertEqual(told(found.where_positive()), form)
        for size in list(range(60)) + [5040, 5041, 10 ** 9]:
            self.assertEqual(size in found.where_positive(), value(found, size) > 0)

    def too_long(self, found):
        with self.assertRaises(TooLong):
            found.where_positive()

    def test_never_and_always(self):
        self.check(polynomial(0), ((), 0, 1, ()))
        self.check(polynomial(-1), ((), 0, 1, ()))
        self.check(polynomial(1), ((), 0, 1, (0,)))
        self.check(polynomial(1, 1), ((), 0, 1, (0,)))
        self.check(polynomial(0, -1), ((), 0, 1, ()))
        self.check(polynomial(5, -4, 1), ((), 0, 1, (0,)))
        self.check(polynomial(-5, 4, -1), ((), 0, 1, ()))
        self.check(polynomial(-1, 0, -1, 7), ((), 0, 1, ()))
        # It is 0 at one size, or above 0 between two sizes alone.
        self.check(polynomial(-4, 4, -1), ((), 0, 1, ()))
        self.check(polynomial(-6, 5, -1), ((), 0, 1, ()))
        self.check(polynomial(-25, 20, -4), ((), 0, 1, ()))
        self.check(polynomial(-99 * 100, 199, -1), ((), 0, 1, ()))
        self.check(polynomial(99 * 100, -199, 1), ((*range(99),), 101, 1, (0,)))

    def test_up_to_a_size_and_from_one_on(self):
        self.check(polynomial(5, -1), ((0, 1, 2, 3, 4), 5, 1, ()))
        self.check(polynomial(-5, 1), ((), 6, 1, (0,)))
        self.check(polynomial(-5, 2, 0, 3), ((), 3, 1, (0,)))
        self.check(polynomial(-10, 3, 1), ((), 3, 1, (0,)))
        self.check(polynomial(0, 0, 1), ((), 1, 1, (0,)))
        self.check(polynomial(9, 0, -1), ((0, 1, 2), 3, 1, ()))

    def test_between_two_sizes_and_but_between(self):
        self.check(polynomial(-10, 7, -1), ((3, 4), 5, 1, ()))
        self.check(polynomial(-11, 7, -1), ((3, 4), 5, 1, ()))
        self.check(polynomial(10, -7, 1), ((0, 1), 6, 1, (0,)))
        self.check(polynomial(4, -4, 1), ((0, 1), 3, 1, (0,)))
        self.check(polynomial(12, -7, 1), ((0, 1, 2), 5, 1, (0,)))
        self.check(polynomial(0, -4, 1), ((), 5, 1, (0,)))

    def test_signs_that_turn_at_5040_and_beyond(self):
        self.check(polynomial(-5039, 1), ((), 5040, 1, (0,)))
        self.too_long(polynomial(-5040, 1))
        self.too_long(polynomial(-5041, 1))
        self.too_long(polynomial(-10 ** 9, 1))
        self.check(polynomial(5041, -1), ((*range(5041),), 5041, 1, ()))
        self.too_long(polynomial(5042, -1))
        self.too_long(polynomial(10 ** 9, -1))
        self.check(polynomial(-10079, 2), ((), 5040, 1, (0,)))
        self.too_long(polynomial(-10081, 2))
        # The turn from above 0 to 0, and back, between 5040 and later sizes.
        self.too_long(polynomial(5039 * 5041, -10080, 1))
        self.too_long(polynomial(5038 * 5040, -10078, 1))
        self.check(polynomial(5037 * 5039, -10076, 1), ((*range(5037),), 5040, 1, (0,)))
        self.check(polynomial(-5038 * 5041, 10079, -1), ((5039, 5040), 5041, 1, ()))
        self.too_long(polynomial(-5038 * 5042, 10080, -1))
        # Above 0 at many sizes beyond, but not at all; and at all but 9001, behind the turning point.
        self.too_long(polynomial(-5000 * 6000, 11000, -1))
        self.too_long(polynomial(-5000 * 6000 * 2, 22000, -2))
        self.too_long(polynomial(324054002, -72006, 4))
        self.too_long(polynomial(-324054001, 72006, -4))
        self.check(polynomial(-324054002, 72006, -4), ((), 0, 1, ()))
        # Above 0 at one size alone, or at all but one.
        for size in (5040, 5041, 5042, 9000):
            alone = polynomial(1 - size * size, 2 * size, -1)
            others = polynomial(size * size, -2 * size, 1)
            if size == 5040:
                self.assertEqual(told(alone.where_positive()), ((5040,), 5041, 1, ()))
            else:
                self.too_long(alone)
            self.too_long(others)
        self.assertEqual(told(polynomial(5039 ** 2, -2 * 5039, 1).where_positive()), ((*range(5039),), 5040, 1, (0,)))
        # It turns between two sizes far out, but is not above 0 at any, or is at all.
        self.check(polynomial(-4 * 9000 * 9001 - 1, 4 * 18001, -4), ((), 0, 1, ()))
        self.check(polynomial(9000 * 9001 * 4 + 2, -4 * 18001, 4), ((), 0, 1, (0,)))
        self.check(polynomial(9000 * 9001 * 4 + 1, -4 * 18001, 4), ((), 0, 1, (0,)))
        self.too_long(polynomial(9000 * 9001 * 4, -4 * 18001, 4))

    def test_against_trying_sizes(self):
        random = dice(204)
        for _ in range(200):
            found = polynomial(random.randint(-300, 300), random.randint(-30, 30), random.randint(-3, 3),
                               random.randint(1, 4))
            positive = found.where_positive()
            for size in range(400):
                self.assertEqual(size in positive, value(found, size) > 0)


class TestWhereMore(unittest.TestCase):
    def check(self, one, other, what):
        found = where_more(one, other, what)
        for size in range(30):
            here, there = counted(one, what, size), counted(other, what, size)
            self.assertEqual(size in found, None not in (here, there) and here > there)
        return found

    def test_some(self):
        one, other = ring((9, 1), part((), [K])), ring((4, 2), part((), [K]))
        self.assertEqual(told(self.check(one, other, "all")), ((0, 1, 2, 3, 4), 5, 1, ()))
        self.assertEqual(told(self.check(other, one, "all")), ((), 6, 1, (0,)))
        self.assertEqual(self.check(one, one, "all"), NONE)
        self.assertEqual(self.check(one, other, ("kind", "p")), NONE)
        odd = ring((4, 2), part([K], [K, K, K]))
        self.assertEqual(told(self.check(one, odd, "all")), ((0, 3), 4, 1, ()))
        self.assertEqual(told(self.check(odd, one, "all")), ((), 4, 3, (2,)))
        self.assertEqual(told(self.check(odd, ring((4, 2), part((), [K, P])), ("kind", "k"))), ((), 0, 3, (0,)))
        self.assertEqual(told(self.check(ring((4, 1), block((0, 1), PLAIN)), ring((24, 0), part((), [K])), "all")),
                         ((), 4, 1, (0,)))
        self.assertEqual(told(self.check(ring((4, 0), block((6, -1), PLAIN)), ring((3, 0), part((), [K])), "all")),
                         ((0, 1, 2, 3, 4, 5), 6, 1, ()))

    def test_against_knitting(self):
        random = dice(205)
        some = 0
        for _ in range(300):
            one, other = [random.choice([random_piece, plain_piece])(random) for _ in range(2)]
            if lcm(measure_of(one.parts), measure_of(other.parts)) <= 840:
                one, other = [type(piece)("round", piece.cast, piece.parts) for piece in (one, other)]
                try:
                    some += bool(self.check(one, other, random.choice(["all", ("kind", "k"), ("yarn", "a")])))
                except TooLong:
                    pass
        self.assertGreater(some, 40)

    def test_measures(self):
        self.assertEqual(lcm(measure_of(WIDE.parts), measure_of(ELEVEN.parts)), 1320)
        with self.assertRaises(TooLong):
            where_more(WIDE, ELEVEN, "all")
        seven = ring((0, 1), part((), [K] * 7), block((0, 0), *[PLAIN] * 4))
        self.assertEqual(lcm(measure_of(WIDE.parts), measure_of(seven.parts)), 840)
        self.assertEqual(where_more(WIDE, seven, "all"), NONE)
        self.assertEqual(told(where_more(seven, WIDE, ("kind", "k"))), ((), 1, 420, (419,)))

    def test_great_sizes(self):
        many = ring((99, 0), block((99, 0), PLAIN))
        self.assertTrue(where_more(many, ring((0, 2), part((), [K])), "all"))
        with self.assertRaises(TooLong):
            where_more(many, ring((0, 1), part((), [K])), "all")
        # Also where no size of those comes out.
        with self.assertRaises(TooLong):
            where_more(ring((99, 0), block((99, 0), PLAIN), part([K] * 5)), ring((0, 1), part((), [K])), "all")

    def test_errors(self):
        for what in NO_COUNTS:
            with self.assertRaises(BadCount):
                where_more(WIDE, ELEVEN, what)


class TestWhereMost(unittest.TestCase):
    def check(self, piece, what, most):
        found = where_most(piece, what, most)
        for size in range(30):
            many = counted(piece, what, size)
            self.assertEqual(size in found, many is not None and many <= most)
        return found

    def test_some(self):
        piece = ring((4, 2), part((), [K, K, K]))
        self.assertEqual(told(self.check(piece, "all", 30)), ((1, 4, 7, 10, 13), 14, 1, ()))
        self.assertEqual(told(self.check(piece, "all", 29)), ((1, 4, 7, 10), 11, 1, ()))
        self.assertEqual(self.check(piece, "all", 5), NONE)
        self.assertEqual(self.check(piece, "all", -1), NONE)
        self.assertEqual(self.check(piece, "all", -10 ** 30), NONE)
        self.assertEqual(self.check(piece, ("kind", "p"), 0), out_sizes(piece))
        self.assertEqual(self.check(piece, ("kind", "p"), 10 ** 30), out_sizes(piece))
        self.assertEqual(self.check(ring((4, 2)), "all", 0), ALL)
        hill = ring((0, 1), block((9, -1), PLAIN))
        self.assertEqual(told(self.check(hill, "all", 17)), ((0, 1, 2, 7, 8, 9), 10, 1, ()))
        self.assertEqual(told(self.check(ring((9, 0), block((0, 1), row([BO], [K]))), "all", 16)), ((0, 1), 2, 1, ()))
        self.assertEqual(told(self.check(ring((9, 0), block((0, 1), row([BO], [K]))), "all", 17)), ((0, 1, 2), 3, 1, ()))
        self.assertEqual(self.check(ring((3, 1), part([K] * 9)), "all", 9), Sizes((6,), 7, 1, ()))

    def test_just_at_5040_and_beyond(self):
        piece = ring((0, 1), part((), [K]))
        self.assertEqual(where_most(piece, "all", 5039).many, 5040)
        for most in (5040, 5041, 10 ** 20):
            with self.assertRaises(TooLong):
                where_most(piece, "all", most)
        self.assertEqual(where_most(ring((99, 0), part((), [K])), "all", 10 ** 20), ALL)
        # It falls to 0 beyond all sizes that come out.
        with self.assertRaises(TooLong):
            where_most(ring((9, -1), part((), [K])), "all", -6000)

    def test_against_knitting(self):
        random = dice(206)
        some = 0
        for _ in range(300):
            piece = random.choice([random_piece, plain_piece])(random)
            piece = type(piece)("round", piece.cast, piece.parts)
            what = random.choice(["all", ("kind", "k"), ("yarn", "a"), ("kind", "yo")])
            some += bool(self.check(piece, what, random.randint(0, 90)))
        self.assertGreater(some, 100)

    def test_errors(self):
        for what in NO_COUNTS:
            for most in (5, 10 ** 9, None):
                with self.assertRaises(BadCount):
                    where_most(ring((0, 1), part((), [K])), what, most)
        for most in [thing for thing in ODD_THINGS if thing is not ODD_THINGS[3]]:
            with self.assertRaises(BadCount):
                where_most(ring((0, 1), part((), [K])), "all", most)


if __name__ == "__main__":
    unittest.main()
