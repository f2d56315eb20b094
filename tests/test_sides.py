import unittest

from allstitches.counting import out_sizes, trouble
from allstitches.errors import BadPiece
from allstitches.pieces import Piece
from allstitches.sides import where_hanging, where_yarns, yarns_of
from allstitches.sizes import Sizes
from tests.things import BO, K, P, TOG, block, cloth_at, dice, flat, part, random_piece, ring, row, told

B, C, D = ("k", "b"), ("p", "c"), ("k", "d")
ALL = Sizes((), 0, 1, (0,))
NONE = Sizes((), 0, 1, ())
PLAIN = row((), [K])
BROWN = row((), [B])


def rows_at(piece, size):
    rows = []
    for one in piece.parts:
        rows += [one[1]] if one[0] == "row" else list(one[2]) * (one[1][0] + one[1][1] * size)
    return rows


def hangs(piece, size):
    """Whether each row begins where the yarns hang that it uses, by the words of [30]."""
    if piece.way == "round":
        return True
    where = {}
    for number, one in enumerate(rows_at(piece, size)):
        begin, end = ("right", "left") if number % 2 == 0 else ("left", "right")
        used = {yarn for word in one for _, yarn in word}
        if any(where.get(yarn, begin) != begin for yarn in used):
            return False
        where.update(dict.fromkeys(used, end))
    return True


def coloured(dice, piece):
    """The piece with other yarns in some rows."""
    def row_in(row):
        words = []
        for word in row:
            yarns = dice.choice(["a", "a", "b", "ab", "abc"])
            words.append(tuple((kind, dice.choice(yarns)) for kind, _ in word))
        return tuple(words)

    parts = [("row", row_in(one[1])) if one[0] == "row" else (one[0], one[1], tuple(row_in(row) for row in one[2]))
             for one in piece.parts]
    return Piece(dice.choice(["flat", "flat", piece.way]), piece.cast, tuple(parts))


def strips(dice):
    """A flat piece of rows and blocks, each row of one yarn or two, that comes out at many sizes."""
    def one():
        return row((), [(dice.choice("kp"), yarn) for yarn in dice.choice(["a", "a", "b", "c", "ab"])])

    while True:
        parts = []
        for _ in range(dice.randint(1, 4)):
            if dice.random() < 0.4:
                parts.append(("row", one()))
            else:
                line = (dice.randint(-2, 4), dice.choice([0, 0, 1, 1, 2, 3, -1]))
                parts.append(block(line, *[one() for _ in range(dice.choice([1, 1, 2, 3]))]))
        try:
            return flat((dice.randint(0, 3) * 2, dice.choice([0, 2, 4])), *parts)
        except BadPiece:
            pass


def tapered(dice):
    """A piece with rows whose groups have yarns of their own, which at some sizes are not worked in some rounds."""
    def one():
        ends = [tuple((dice.choice(["k", "k", "p", "k2tog", "yo", "bo"]), dice.choice("aab"))
                      for _ in range(dice.randint(0, 2))) for _ in range(2)]
        return row(ends[0], [(dice.choice("kp"), dice.choice("abc"))], ends[1])

    parts = []
    for _ in range(dice.randint(1, 3)):
        line = (dice.randint(0, 3), dice.choice([0, 0, 1, 1, -1]))
        parts.append(("row", one()) if dice.random() < 0.4 else block(line, *[one() for _ in range(dice.randint(1, 2))]))
    return Piece(dice.choice(["flat", "round"]), (dice.randint(0, 8), dice.randint(0, 2)), tuple(parts))


class TestYarnsOf(unittest.TestCase):
    def test_example(self):
        rows = [((), (("k", yarn),), ()) for yarn in "aba"]
        flats, rings = [Piece(way, (4, 1), tuple([("row", one) for one in rows])) for way in ("flat", "round")]
        self.assertEqual([yarns_of(flats), bool(where_hanging(flats)), where_hanging(rings).later],
                         [["a", "b"], False, (0,)])

    def test_all_words_of_all_rows_count(self):
        piece = flat((4, 0), part([("k", "z")], [("k", "c"), ("p", "y")], [("k", "b")]),
                     block((0, 0), row([("yo", "m")]), BROWN), part([("k", "n")] * 60))
        self.assertEqual(yarns_of(piece), list("bcmnyz"))
        self.assertEqual(yarns_of(flat((4, 0))), [])
        self.assertEqual(yarns_of(flat((4, 0), part(), part((), [K]))), ["a"])

    def test_the_list_is_new(self):
        piece = flat((4, 0), part([K]))
        yarns_of(piece).append("b")
        self.assertEqual(yarns_of(piece), ["a"])


class TestWhereHanging(unittest.TestCase):
    def check(self, piece, end=40):
        found = where_hanging(piece)
        self.assertIsInstance(found, Sizes)
        for size in range(end):
            right = trouble(piece, size) is None and hangs(piece, size)
            self.assertEqual(size in found, right, (piece.way, piece.cast, piece.parts, size))
        return found

    def test_against_all_small_sizes(self):
        random = dice(301)
        partly = 0
        for _ in range(300):
            piece = strips(random) if random.random() < 0.7 else coloured(random, random_piece(random))
            found = self.check(piece)
            partly += bool(found) and found != out_sizes(piece)
        self.assertGreater(partly, 15)

    def test_rows_an_odd_and_an_even_number_of_rows_apart(self):
        brown = ("row", BROWN)
        for gap in range(6):
            piece = flat((4, 1), brown, *[part((), [K])] * gap, brown)
            self.assertEqual(where_hanging(piece), ALL if gap % 2 == 0 else NONE)
            self.assertEqual(where_hanging(ring((4, 1), *piece.parts)), ALL)

    def test_a_row_of_a_block_in_two_of_its_rounds(self):
        self.assertEqual(where_hanging(flat((4, 0), block((3, 0), PLAIN, BROWN))), NONE)
        self.assertEqual(where_hanging(flat((4, 0), block((1, 0), PLAIN, BROWN))), ALL)
        self.assertEqual(where_hanging(flat((4, 0), block((3, 0), PLAIN, row((), [C]), BROWN))), ALL)
        # Stripes of two rows hang right, but not those of one.
        self.assertEqual(where_hanging(flat((4, 0), block((0, 1), PLAIN, PLAIN, BROWN, BROWN))), ALL)
        self.assertEqual(told(where_hanging(flat((4, 0), block((0, 1), PLAIN, BROWN)))), ((0, 1), 2, 1, ()))
        self.assertEqual(where_hanging(flat((4, 0), block((0, 1), PLAIN))), ALL)

    def test_blocks_with_an_odd_and_an_even_number_of_rows_between(self):
        for rows, sizes in [([PLAIN], ((), 0, 2, (0,))), ([PLAIN] * 2, ((), 0, 1, (0,))), ([PLAIN] * 3, ((), 0, 2, (0,)))]:
            piece = flat((4, 0), part((), [B]), block((0, 1), *rows), part((), [B]))
            self.assertEqual(told(self.check(piece)), sizes)
        # As often as the size tells: worked once, it is right; worked twice, not.
        piece = flat((4, 0), block((-1, 1), PLAIN, BROWN))
        self.assertEqual(told(self.check(piece)), ((1, 2), 3, 1, ()))
        piece = flat((4, 0), block((5, -1), PLAIN, BROWN))
        self.assertEqual(told(self.check(piece)), ((4, 5), 6, 1, ()))
        # A block that is not worked at all hides nothing.
        piece = flat((4, 0), part((), [B]), block((0, 1), PLAIN, BROWN), part((), [B]))
        self.assertEqual(told(self.check(piece)), ((0,), 1, 1, ()))

    def test_great_sizes(self):
        piece = flat((4, 0), part((), [B]), block((98, 3), PLAIN), part((), [B]))
        found = where_hanging(piece)
        self.assertEqual([10 ** 30 in found, 10 ** 30 + 1 in found], [True, False])

    def test_a_yarn_in_a_group_that_is_not_worked(self):
        one = row([K], [C])
        self.assertEqual(where_hanging(flat((1, 0), ("row", one), part((), [K]), ("row", one))), NONE)
        self.assertEqual(where_hanging(flat((1, 0), ("row", one), ("row", one))), ALL)

    def test_sizes_that_do_not_come_out(self):
        odd = part((), [K, B])
        self.assertEqual(told(where_hanging(flat((0, 1), odd, odd))), ((), 0, 2, (0,)))
        self.assertEqual(told(where_hanging(ring((0, 1), odd, part((), [K]), odd))), ((), 0, 2, (0,)))
        self.assertEqual(where_hanging(flat((-1, 0), odd)), NONE)
        self.assertEqual(told(where_hanging(flat((1, 2), odd, odd))), ((), 0, 1, ()))
        self.assertEqual(where_hanging(flat((4, 1))), ALL)


class TestWhereYarns(unittest.TestCase):
    def check(self, piece, most, end=20):
        found = where_yarns(piece, most)
        self.assertIsInstance(found, Sizes)
        for size in range(end):
            looks = cloth_at(piece, size)
            right = looks is not None and all(len({yarn for _, yarn in look}) <= most for look in looks)
            self.assertEqual(size in found, right, (piece.way, piece.cast, piece.parts, most, size))
        return found

    def test_against_all_small_sizes(self):
        random = dice(302)
        partly = 0
        for _ in range(200):
            piece = tapered(random) if random.random() < 0.7 else coloured(random, random_piece(random))
            for most in range(4):
                found = self.check(piece, most)
                partly += bool(found) and found != out_sizes(piece)
        self.assertGreater(partly, 15)

    def test_a_group_counts_only_if_it_is_worked(self):
        piece = flat((1, 1), part([K], [B]))
        self.assertEqual(told(where_yarns(piece, 1)), ((0,), 1, 1, ()))
        self.assertEqual(where_yarns(piece, 2), ALL)
        self.assertEqual(where_yarns(piece, 0), NONE)
        self.assertEqual(told(self.check(flat((1, 3), part([K], [B, C, D])), 2)), ((0,), 1, 1, ()))

    def test_most_of_0(self):
        self.assertEqual(where_yarns(flat((0, 1), part((), [K])), 0), Sizes((0,), 1, 1, ()))
        self.assertEqual(where_yarns(flat((5, 1)), 0), ALL)
        self.assertEqual(told(where_yarns(flat((0, 1), part()), 0)), ((0,), 1, 1, ()))
        self.assertEqual(where_yarns(flat((1, 0), part([BO])), 0), NONE)

    def test_blocks(self):
        two = row([K], [B])
        for line, sizes in [((0, 0), ((), 0, 1, (0,))), ((1, 0), ((), 0, 1, ())), ((0, 1), ((0,), 1, 1, ())),
                            ((2, -1), ((2,), 3, 1, ()))]:
            self.assertEqual(told(self.check(flat((4, 0), block(line, two)), 1)), sizes)
        # Only the first of some rounds has loops for the group, or only the last one.
        narrow = row([K, TOG], [B])
        piece = flat((7, 0), block((0, 1), narrow))
        self.assertEqual(told(self.check(piece, 1)), ((0,), 1, 1, ()))
        wide = row([K, ("yo", "a")], [B])
        self.assertEqual(told(self.check(flat((1, 0), block((0, 1), wide)), 1)), ((0, 1), 2, 1, ()))

    def test_groups_with_fewer_turns_at_greater_sizes(self):
        self.assertEqual(told(self.check(flat((10, -1), part([K], [B])), 1)), ((9,), 10, 1, ()))
        self.assertEqual(told(self.check(ring((11, -1), part([K], [B, B])), 1)), ((10,), 11, 1, ()))
        self.assertEqual(told(self.check(ring((50, -3), part([K] * 2, [B] * 3)), 1)), ((16,), 17, 1, ()))
        self.assertEqual(told(self.check(flat((9, -2), part([K], [B])), 1)), ((4,), 5, 1, ()))
        # As many at all sizes.
        self.assertEqual(told(self.check(flat((1, 0), part([K], [B])), 1)), ((), 0, 1, (0,)))
        self.assertEqual(told(self.check(flat((2, 0), part([K], [B])), 1)), ((), 0, 1, ()))

    def test_more_than_there_are(self):
        piece = flat((4, 1), part((), [P]), part([B], [C], [D]))
        self.assertEqual(where_yarns(piece, 26), where_yarns(piece, 10 ** 30))
        self.assertEqual(where_yarns(piece, 26), ALL)
        self.assertEqual(where_yarns(piece, 2), NONE)
        self.assertEqual(told(where_yarns(flat((2, 1), part([B], [C], [D])), 2)), ((0,), 1, 1, ()))


if __name__ == "__main__":
    unittest.main()
