import itertools
import unittest

from allstitches.counting import out_sizes, trouble
from allstitches.errors import BadPiece, BadSizes
from allstitches.faults import BadCount
from allstitches.holes import Filling, Open, ends_with, fillings
from allstitches.pieces import Piece
from allstitches.sizes import Sizes
from tests.things import BO, K, ODD_THINGS, P, TOG, YO, block, dice, knit, part, row

ALL = Sizes((), 0, 1, (0,))
NONE = Sizes((), 0, 1, ())
A, B, Z = ("A", K), ("B", P), ("Z", K)
PLAIN = row((), [K])
ONES = [(number,) for number in range(7)]
TWOS = sorted(itertools.product(range(7), repeat=2), key=lambda pair: (sum(pair), pair))
NO_SETS = [Sizes((), 0, 43, (0,)), Sizes((), 0, 5040, (7,)), (0, 1), "none"] + ODD_THINGS


def opened(cast, *parts, way="flat"):
    return Open(way, cast, tuple(parts))


def put_in(thing, told):
    """A part, row or word with numbers for the holes, by the words of [31]."""
    if isinstance(thing, tuple) and all(isinstance(item, tuple) and len(item) == 2 and isinstance(item[0], str)
                                        for item in thing):
        cells = ()
        for item in thing:
            cells += (item[1],) * told[item[0]] if item[0] in told else (item,)
        return cells
    return tuple(put_in(item, told) if isinstance(item, tuple) else item for item in thing)


class TestOpen(unittest.TestCase):
    def test_example(self):
        one = ((("A", ("k", "a")),), (("k", "a"), ("p", "a")), (("p", "a"),))
        told = fillings(Open("flat", (6, 2), (("row", one),)), Sizes((), 0, 1, (0,)))
        self.assertEqual([told.good, told.against[(0,)], told.against[(6,)]], [[(1,), (3,), (5,)], 0, 0])

    def test_holes(self):
        self.assertEqual(opened((4, 1), part([A], [K])).holes, ["A"])
        self.assertEqual(opened((4, 1), part([B], [K], [A])).holes, ["A", "B"])
        self.assertEqual(opened((4, 1), part([Z], [Z], [Z]), block((2, 1), row([Z, Z]))).holes, ["Z"])
        self.assertEqual(opened((4, 1), block((2, 1), PLAIN, row([K], [K], [Z])), part([A])).holes, ["A", "Z"])
        self.assertEqual(opened((4, 1), part([("A", K), ("A", P), ("A", ("k2tog", "c"))])).holes, ["A"])

    def test_returned_lists_are_new(self):
        one = opened((4, 1), part([A], [K]))
        one.holes.append("B")
        one.choices().clear()
        self.assertEqual((one.holes, one.choices()), (["A"], ONES))
        self.assertEqual(one.filled((2,)).parts, (part([K, K], [K]),))

    def refused(self, *parts, way="flat", cast=(4, 1)):
        with self.assertRaises(BadPiece) as caught:
            Open(way, cast, tuple(parts))
        self.assertIsNone(caught.exception.part)

    def test_no_holes_and_three(self):
        self.refused()
        self.refused(part([K], [K]))
        self.refused(part([A], [K], [B]), part([Z]))
        self.refused(part([A], [K]), block((2, 1), row([B]), row([], [K], [Z])))
        self.assertEqual(opened((4, 1), part([A], [B]), part([B], [A])).holes, ["A", "B"])

    def test_parts_that_are_none(self):
        right = part([A], [K])
        for wrong in [("row",), ("row", ([A], [K], [])), ("row", ((A,), (K,))), ("row", ((A,), (K,), (), ())),
                      ("rows", right[1]), ("row", right[1], right[1]), (),
                      ("rows", (2, 1), (right[1],)), ("row", (2, 1), (right[1],)), ("block", right[1]), ["row", right[1]], right[1], ("block", (2, 1)),
                      ("block", (2, 1), ()), ("block", (2, 1), right[1]), ("block", (2, 1), [right[1]]),
                      ("block", (100, 1), (right[1],)), ("block", (2, 10), (right[1],)), ("block", 2, (right[1],)),
                      ("block", (True, 1), (right[1],)), ("block", (2, 1), (right[1],) * 21), (right[1],),
                      ("block", (2, 1), (right[1], None)), ("block", (2, 1), (right[1],), 3)] + ODD_THINGS:
            self.refused(wrong)
            self.refused(right, wrong)
            self.refused(wrong, right)
        for word in [("A", K), (("A", "k"),), (("a", K),), (("AB", K),), (("", K),), (("\xc4", K),), (("A", K, 2),),
                     (("A",),), ((1, K),), (["A", K],), (("A", ("k", "A")),), (("A", ("A", K)),), ("A",), (A, ("x", "a")),
                     (A, None), ((K, "A"),), (("A", (K,)),)] + [thing for thing in ODD_THINGS if thing != ()]:
            self.refused(("row", (word, (), ())))
            self.refused(("row", ((A,), word, ())))
            self.refused(right, ("block", (1, 0), (((A,), (K,), word),)))

    def test_what_are_no_tuples_of_parts(self):
        right = part([A], [K])
        for parts in [[right], right, None, {0: right}] + ODD_THINGS:
            with self.assertRaises(BadPiece) as caught:
                Open("flat", (4, 1), parts)
            self.assertIsNone(caught.exception.part)
        self.assertEqual(opened((4, 1), *[right] * 40).holes, ["A"])
        self.refused(*[right] * 41)
        self.assertEqual(opened((4, 1), block((99, 9), *[right[1]] * 20)).holes, ["A"])


class TestFilled(unittest.TestCase):
    def check(self, one, numbers, *parts):
        found = one.filled(numbers)
        self.assertIsInstance(found, Piece)
        self.assertEqual((found.way, found.cast, found.parts), (one.way, one.cast, parts))

    def test_one_hole_and_two(self):
        one = opened((4, 1), part([A, K], [K], [P, A]), way="round")
        self.check(one, (0,), part([K], [K], [P]))
        self.check(one, (1,), part([K, K], [K], [P, K]))
        self.check(one, (3,), part([K] * 4, [K], [P] + [K] * 3))
        one = opened((4, 1), part([B], [K]), block((2, 1), PLAIN, row([A], [K, A], [B, A])))
        self.check(one, (2, 1), part([P], [K]), block((2, 1), PLAIN, row([K] * 2, [K] * 3, [P, K, K])))
        self.check(one, (0, 3), part([P] * 3, [K]), block((2, 1), PLAIN, row([], [K], [P] * 3)))
        self.check(one, (9, 0), part([], [K]), block((2, 1), PLAIN, row([K] * 9, [K] * 10, [K] * 9)))

    def test_the_order_of_numbers(self):
        one = opened((4, 1), part([("Z", TOG)], [K], [("C", YO)]))
        self.assertEqual(one.holes, ["C", "Z"])
        self.check(one, (1, 2), part([TOG, TOG], [K], [YO]))

    def refused(self, position, one, numbers):
        with self.assertRaises(BadPiece) as caught:
            one.filled(numbers)
        self.assertEqual(caught.exception.part, position)

    def test_what_is_no_piece(self):
        # No cells in the group but such behind it; a group that takes nothing, or does not make what it takes.
        self.refused(1, opened((4, 1), part((), [K]), part([K], [A], [P])), (0,))
        self.refused(0, opened((4, 1), part([K], [YO, A])), (0,))
        self.assertEqual(opened((4, 1), part([K], [A])).filled((0,)).parts, (part([K]),))
        self.refused(0, opened((4, 1), block((1, 1), row([K], [TOG, ("A", YO)]))), (0,))
        self.refused(0, opened((4, 1), block((1, 1), row([K], [TOG, ("A", YO)]))), (2,))
        opened((4, 1), block((1, 1), row([K], [TOG, ("A", YO)]))).filled((1,))
        # Too many cells, a change of 13 loops, a measure and a growth that are too great.
        self.refused(1, opened((4, 1), part((), [K]), part([K] * 55 + [A], [K])), (6,))
        opened((4, 1), part([K] * 55 + [A], [K])).filled((5,))
        self.refused(0, opened((4, 1), part([A] * 11)), (6,))
        self.refused(0, opened((4, 1), part([], [A] * 6)), (6,))
        self.refused(0, opened((4, 1), block((1, 1), row([("A", YO)] * 3 + [YO]))), (4,))
        self.refused(None, opened((4, 1), part((), [K] * 7), part((), [A] * 2), part((), [K] * 5)), (2,))
        self.refused(None, opened((4, 1), part((), [("A", YO), K])), (12,))
        opened((4, 1), part((), [("A", YO), K])).filled((11,))
        self.refused(0, opened((4, 1), part([A])), (10 ** 30,))

    def test_ways_and_casts_are_those_of_a_piece(self):
        for way, cast in [("sideways", (4, 1)), ("flat", (100, 1)), ("flat", (4, 10))]:
            self.refused(None, Open(way, cast, (part([A], [K]),)), (1,))

    def test_against_putting_in(self):
        random = dice(311)
        for _ in range(200):
            words = [tuple(random.choice([K, P, A, B, ("A", TOG)]) for _ in range(random.randint(0, 3))) for _ in range(6)]
            parts = (("row", tuple(words[:3])), ("block", (1, 1), (tuple(words[3:]), PLAIN)))
            try:
                one = Open("flat", (9, 1), parts)
            except BadPiece:
                continue
            numbers = tuple(random.randint(0, 6) for _ in one.holes)
            told = dict(zip(one.holes, numbers))
            filled = tuple(put_in(thing, told) for thing in parts)
            try:
                right = Piece("flat", (9, 1), filled)
            except BadPiece as error:
                self.refused(error.part, one, numbers)
                continue
            self.check(one, numbers, *right.parts)


class TestChoices(unittest.TestCase):
    def test_their_order(self):
        self.assertEqual(opened((4, 1), part([A], [K])).choices(), ONES)
        found = opened((4, 1), part([A], [K], [B])).choices()
        self.assertEqual(found, TWOS)
        self.assertEqual(found[:6], [(0, 0), (0, 1), (1, 0), (0, 2), (1, 1), (2, 0)])
        self.assertEqual((len(found), found[-1]), (49, (6, 6)))


class TestFillings(unittest.TestCase):
    def check(self, one, wanted):
        found = fillings(one, wanted)
        self.assertIsInstance(found, Filling)
        good, against = [], []
        for choice in TWOS if len(one.holes) == 2 else ONES:
            try:
                piece = one.filled(choice)
            except BadPiece:
                against.append(choice)
                self.assertIsNone(found.against[choice])
                continue
            if wanted.within(out_sizes(piece)):
                good.append(choice)
                continue
            against.append(choice)
            self.assertIn(found.against[choice], wanted)
            self.assertIsNotNone(trouble(piece, found.against[choice]))
        self.assertEqual((found.good, sorted(found.against)), (good, sorted(against)))
        self.assertIs(bool(found), bool(good))
        self.assertIs(found.shows(one, wanted), True)
        return found

    def test_one_hole(self):
        self.check(opened((6, 2), part([A], [K, P], [P])), ALL)
        self.assertEqual(self.check(opened((6, 2), part([A], [K, P])), ALL).good, [(0,), (2,), (4,), (6,)])
        self.assertEqual(self.check(opened((6, 2), part([K], [A], [P])), ALL).good, [(1,), (2,)])
        self.assertIsNone(self.check(opened((6, 2), part([K], [A], [P])), ALL).against[(0,)])
        self.assertEqual(self.check(opened((6, 0), part([A])), ALL).good, [(6,)])
        self.assertEqual(self.check(opened((6, 3), part([A], [K])), ALL).good, ONES)
        self.assertEqual(self.check(opened((6, 3), part([K] * 7, [A])), ALL).good, [])
        self.assertFalse(self.check(opened((6, 3), part([K] * 7, [A])), ALL))

    def test_two_holes_and_the_same_in_several_places(self):
        found = self.check(opened((6, 2), part([A], [K, P], [B])), ALL)
        self.assertEqual(found.good[:4], [(0, 0), (0, 2), (1, 1), (2, 0)])
        self.check(opened((8, 4), part([A], [K] * 2, [A]), block((1, 1), row([B], [TOG, ("B", YO)])), part([A], [K])), ALL)
        self.check(opened((9, 1), block((2, 0), row([A, BO], [K], [A])), part([], [K, A], [B])), ALL)
        self.check(opened((9, 3), part([("A", YO)], [TOG]), part([("A", BO)], [K, B])), Sizes((1, 3), 4, 2, (1,)))

    def test_wanted_sets(self):
        one = opened((6, 3), part([A], [K, P]))
        self.assertEqual(self.check(one, NONE).good, ONES)
        self.assertEqual(self.check(one, NONE).against, {})
        self.assertEqual(self.check(one, ALL).good, [])
        self.assertEqual(self.check(one, Sizes((), 0, 2, (1,))).good, [(1,), (3,), (5,)])
        self.assertEqual(self.check(one, Sizes((), 0, 42, (1, 41))).good, [(1,), (3,), (5,)])
        self.assertEqual(self.check(one, Sizes((0,), 1, 1, ())).against, {(1,): 0, (3,): 0, (5,): 0})
        group = opened((6, 3), part([K], [A], [P]))
        self.assertEqual(self.check(group, NONE).against, {(0,): None})
        self.check(opened((30, -3), part([A], [K])), ALL)
        self.check(opened((30, -3), part([A], [K])), Sizes(tuple(range(9)), 9, 1, ()))
        self.check(opened((30, -3), block((0, 1), row([("A", BO)], [K]))), Sizes((0, 1, 2, 3, 4), 5, 1, ()))

    def test_against_knitting(self):
        random = dice(312)
        goods = 0
        for _ in range(60):
            one = opened((random.randint(3, 14), random.randint(0, 4)),
                         part([random.choice([A, K, ("A", TOG)])], [K] * random.randint(1, 3), [random.choice([A, B])]),
                         block((random.randint(0, 2), random.randint(0, 1)), row([], [K, ("A", P)], [random.choice([B, P])])))
            wanted = Sizes((), 0, random.choice([1, 2, 3]), (0,))
            found = self.check(one, wanted)
            goods += bool(found)
            for choice in found.good[:5]:
                for size in wanted.first(6):
                    self.assertIsNone(knit(one.filled(choice), size)[2])
        self.assertGreater(goods, 10)

    def test_which_of_several_errors(self):
        one = opened((6, 2), part([A], [K, P]))
        bare = Filling([], {})
        for thing in [Piece("flat", (4, 1), ())] + ODD_THINGS:
            for wanted in (ALL, None):
                for function in (fillings, bare.shows, lambda one, wanted: ends_with(one, wanted, 4)):
                    with self.assertRaises(BadPiece) as caught:
                        function(thing, wanted)
                    self.assertIsNone(caught.exception.part)
        for wanted in NO_SETS:
            for function in (fillings, bare.shows, lambda one, wanted: ends_with(one, wanted, 4)):
                with self.assertRaises(BadSizes):
                    function(one, wanted)
        for loops in [thing for thing in ODD_THINGS if type(thing) is not int] + [1.0, "4"]:
            for piece, wanted in [(one, ALL), (None, None), (one, None), (None, ALL)]:
                with self.assertRaises(BadCount):
                    ends_with(piece, wanted, loops)
        fillings(one, Sizes((), 0, 42, (0, 7)))


class TestShows(unittest.TestCase):
    def setUp(self):
        # Numbers 1, 3, 5 are good, 2, 4, 6 are not, and with 0 there is no piece.
        self.one = opened((7, 2), part([A], [K, P]), block((0, 0), row([], [A], [K])))
        self.found = fillings(self.one, ALL)
        self.good, self.against = self.found.good, self.found.against

    def shows(self, good, against, wanted=ALL):
        return Filling(good, against).shows(self.one, wanted)

    def test_as_it_is(self):
        self.assertEqual(self.good, [(1,), (3,), (5,)])
        self.assertEqual(self.against, {(0,): None, (2,): 0, (4,): 0, (6,): 0})
        self.assertIs(self.shows(self.good, self.against), True)
        self.assertIs(self.shows(self.good, {choice: self.against[choice] for choice in list(self.against)[::-1]}), True)
        for size in (1, 5, 10 ** 30):
            self.assertIs(self.shows(self.good, {**self.against, (4,): size}), True)

    def test_other_choices(self):
        for good in [[], [(1,), (3,)], [(3,), (5,)], [(1,), (5,), (3,)], [(1,), (3,), (5,), (5,)], [(1,), (3,), (6,)],
                     [(1,), (3,), (5,), (7,)], [(1,), (3,), (5, 0)], [(0,), (1,), (3,), (5,)], [(1,), (2,), (3,), (5,)]]:
            self.assertIs(self.shows(good, self.against), False)
        less = {choice: size for choice, size in self.against.items() if choice != (2,)}
        self.assertIs(self.shows([(1,), (2,), (3,), (5,)], less), False)
        self.assertIs(self.shows([(1,), (3,)], {**self.against, (5,): 0}), False)

    def test_what_is_against(self):
        for choice in self.against:
            less = {other: size for other, size in self.against.items() if other != choice}
            self.assertIs(self.shows(self.good, less), False)
            self.assertIs(self.shows(self.good, {**less, (7,): self.against[choice]}), False)
            self.assertIs(self.shows(self.good, {**less, (1,): self.against[choice]}), False)
            self.assertIs(self.shows(self.good, {**less, choice: -1}), False)
            self.assertIs(self.shows(self.good, {**less, choice: 3 if choice == (0,) else None}), False)
        self.assertIs(self.shows(self.good, {**self.against, (3,): 0}), False)
        self.assertIs(self.shows(self.good, {**self.against, (7,): 0}), False)
        self.assertIs(self.shows(self.good, {}), False)

    def test_sizes_that_come_out_or_are_not_wanted(self):
        wanted = Sizes((), 0, 2, (1,))
        one = opened((6, 3), part([A], [K] * 4))
        found = fillings(one, wanted)
        self.assertEqual(found.good, [])
        self.assertEqual(found.against[(1,)], 3)
        for size, right in [(1, False), (3, True), (5, False), (7, True), (0, False), (2, False), (-1, False)]:
            self.assertIs(Filling([], {**found.against, (1,): size}).shows(one, wanted), right)

    def test_other_wanted_sets_and_pieces(self):
        self.assertFalse(self.found.shows(self.one, NONE))
        self.assertFalse(self.found.shows(opened((8, 2), part([A], [K, P]), block((0, 0), row([], [A], [K]))), ALL))
        self.assertFalse(self.found.shows(opened((7, 2), part([A], [K, P])), ALL))
        self.assertFalse(self.found.shows(opened((7, 2), part([A], [K, P], [B]), block((0, 0), row([], [A], [K]))), ALL))

    def test_what_was_given_is_copied(self):
        good, against = list(self.good), dict(self.against)
        found = Filling(good, against)
        good.clear()
        against.clear()
        self.assertTrue(found.shows(self.one, ALL))
        self.assertTrue(found)
        self.found.good.clear()
        self.found.against.clear()
        self.assertFalse(self.found)
        self.assertEqual(fillings(self.one, ALL).good, [(1,), (3,), (5,)])


class TestEndsWith(unittest.TestCase):
    def test_loops_that_some_all_and_none_leave(self):
        one = opened((8, 0), part([A], [TOG], [B]))
        good = fillings(one, ALL).good
        for loops in range(-2, 20):
            right = [choice for choice in good if knit(one.filled(choice), 0)[1] == loops]
            self.assertEqual(ends_with(one, ALL, loops), right)
        self.assertEqual(ends_with(one, ALL, 4), [(0, 0)])
        self.assertIn((1, 1), ends_with(one, ALL, 5))
        same = opened((8, 0), part([A], [K]))
        self.assertEqual([ends_with(same, ALL, loops) for loops in (8, 7, -8, 10 ** 30)], [ONES, [], [], []])

    def test_loops_that_change_with_the_size(self):
        one = opened((8, 2), part([A], [K, P]))
        self.assertEqual(fillings(one, ALL).good, [(0,), (2,), (4,), (6,)])
        self.assertEqual(ends_with(one, ALL, 8), [])
        self.assertEqual(ends_with(one, Sizes((), 0, 2, (0,)), 8), [])
        self.assertEqual(ends_with(one, Sizes((0,), 1, 1, ()), 8), [(0,), (2,), (4,), (6,)])
        self.assertEqual(ends_with(one, Sizes((1,), 2, 1, ()), 8), [])
        self.assertEqual(ends_with(one, Sizes((3,), 4, 1, ()), 14), [(0,), (2,), (4,), (6,)])
        self.assertEqual(ends_with(one, Sizes((0, 3), 4, 1, ()), 14), [])
        # At no wanted sizes any number is left.
        self.assertEqual(ends_with(one, NONE, 5), ONES)
        self.assertEqual(ends_with(opened((8, 2), part([A], [K, P]), part([BO] * 3, [A], [P])), NONE, -5), ONES[1:])

    def test_rows_that_make_up_for_the_size(self):
        one = opened((8, 2), block((0, 1), row([BO, BO], [K])), part([("A", YO)], [K]))
        self.assertEqual([ends_with(one, ALL, loops) for loops in (8, 11, 14, 15)], [[(0,)], [(3,)], [(6,)], []])


if __name__ == "__main__":
    unittest.main()
