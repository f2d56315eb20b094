import unittest

from allstitches.counting import out_sizes, trouble
from allstitches.errors import BadPiece, BadSize, NotOut, TooLong
from allstitches.faults import BadTable
from allstitches.knitting import cloth
from allstitches.pieces import Piece
from allstitches.reading import read_piece
from allstitches.tabling import Folded, Unfolded, at_size, fold
from tests.things import K, KFB, ODD_THINGS, P, block, dice, flat, part, random_piece, ring, row

PLAIN, RIBS = row((), [K]), row((), [K, P])


def at(line, size):
    return line[0] + line[1] * size


def single_at(piece, size):
    """What a piece is at a size, as a tuple, whether it comes out or not."""
    return (piece.way, at(piece.cast, size), tuple(told if told[0] == "row" else ("block", at(told[1], size), told[2])
                                                   for told in piece.parts))


def has_line(points):
    """Whether there is a line through all points, found by trying all rises."""
    for rise in range(-9, 10):
        bases = {number - rise * size for size, number in points}
        if len(bases) == 1 and -99 <= min(bases) <= 99:
            return True
    return False


def place_of(table):
    """The place that bars a table, None if there is none, by the words of [17]."""
    pieces = list(table.values())
    if len({piece.way for piece in pieces}) > 1 or not has_line([(size, piece.cast[0]) for size, piece in table.items()]):
        return -1
    for place in range(40):
        told = [piece.parts[place] if place < len(piece.parts) else None for piece in pieces]
        if told == [None] * len(told):
            return None
        rows = [(one[0], one[-1]) if one else None for one in told]
        if any(one != rows[0] for one in rows):
            return place
        if rows[0][0] == "block" and not has_line([(size, one[1][0]) for size, one in zip(table, told)]):
            return place
    return None


class Tables(unittest.TestCase):
    def folds(self, table):
        found = fold(table)
        self.assertIsInstance(found, Folded)
        self.assertIs(bool(found), True)
        self.assertIs(found.shows(table), True)
        self.assertIsInstance(found.piece, Piece)
        for size, piece in table.items():
            self.assertEqual(single_at(found.piece, size), single_at(piece, 0))
        return found.piece

    def bars(self, table, place, sizes=None):
        found = fold(table)
        self.assertIsInstance(found, Unfolded)
        self.assertIs(bool(found), False)
        self.assertEqual(found.place, place)
        self.assertIs(found.shows(table), True)
        self.assertIsInstance(found.sizes, tuple)
        self.assertIn(len(found.sizes), (2, 3))
        self.assertEqual(list(found.sizes), sorted(found.sizes))
        self.assertLessEqual(set(found.sizes), set(table))
        self.assertEqual(place_of({size: table[size] for size in found.sizes}), place)
        if sizes is not None:
            self.assertEqual(found.sizes, sizes)
        return found


class TestFold(Tables):
    def test_example(self):
        piece = read_piece("round on 8 + 2 s\nblock 1 + s\n  *k, p*\n")
        told = fold({0: at_size(piece, 0), 3: at_size(piece, 3)})
        self.assertEqual([at_size(piece, 3).cast, told.piece.cast, told.piece.parts[0][1]], [(14, 0), (8, 2), (1, 1)])

    def test_tables_of_one_size(self):
        for size in (0, 7, 1000):
            for piece in [flat((4, 0)), ring((-99, 0), part([K]), block((99, 0), PLAIN)), flat((99, 0), block((-99, 0), PLAIN))]:
                self.folds({size: piece})

    def test_tables_of_two_to_five(self):
        piece = ring((8, 2), part([K], [K]), block((9, -3), PLAIN, RIBS), block((-4, 0), PLAIN), part())
        sizes = [6, 0, 9, 3, 1]
        for many in range(2, 6):
            table = {size: ring((at(piece.cast, size), 0), *[told if told[0] == "row" else
                                                             ("block", (at(told[1], size), 0), told[2])
                                                             for told in piece.parts]) for size in sizes[:many]}
            found = self.folds(table)
            self.assertEqual((found.cast, found.parts), (piece.cast, piece.parts))

    def test_sizes_that_do_not_come_out(self):
        odd = part((), [K] * 7)
        self.assertEqual(self.folds({1: flat((-5, 0), odd), 2: flat((-3, 0), odd)}).cast, (-7, 2))

    def test_ways(self):
        self.bars({0: flat((4, 0)), 5: ring((4, 0))}, -1, (0, 5))
        self.bars({0: flat((4, 0)), 3: flat((4, 0)), 5: ring((4, 0))}, -1)
        self.bars({9: flat((4, 0), part([K])), 3: ring((5, 0), part([P]))}, -1, (3, 9))

    def test_what_is_cast_on(self):
        self.assertEqual(self.folds({0: flat((4, 0)), 2: flat((8, 0))}).cast, (4, 2))
        self.assertEqual(self.folds({10: flat((4, 0)), 12: flat((2, 0)), 14: flat((0, 0))}).cast, (14, -1))
        self.bars({0: flat((4, 0)), 2: flat((9, 0))}, -1, (0, 2))
        self.bars({0: flat((4, 0)), 2: flat((8, 0)), 3: flat((9, 0))}, -1)
        self.bars({0: flat((4, 0)), 1: flat((5, 0)), 2: flat((6, 0)), 3: flat((6, 0)), 4: flat((8, 0))}, -1)
        # Only through a line beyond its limits.
        self.assertEqual(self.folds({0: flat((4, 0)), 1: flat((13, 0))}).cast, (4, 9))
        self.bars({0: flat((4, 0)), 1: flat((14, 0))}, -1, (0, 1))
        self.bars({0: flat((4, 0)), 1: flat((-6, 0))}, -1, (0, 1))
        self.assertEqual(self.folds({100: flat((1, 0)), 101: flat((2, 0))}).cast, (-99, 1))
        self.bars({101: flat((1, 0)), 102: flat((2, 0))}, -1, (101, 102))
        self.assertEqual(self.folds({999: flat((1, 0)), 1000: flat((1, 0))}).cast, (1, 0))
        self.bars({999: flat((2, 0)), 1000: flat((1, 0))}, -1)

    def test_the_number_of_parts(self):
        one, two = [part([K])], [part([K]), part([P])]
        self.bars({0: flat((4, 0), *one), 1: flat((4, 0), *two)}, 1, (0, 1))
        self.bars({0: flat((4, 0), *two), 1: flat((4, 0), *two), 6: flat((4, 0), *one)}, 1)
        self.bars({0: flat((4, 0)), 1: flat((4, 0), *one)}, 0)
        self.assertEqual(self.folds({0: flat((4, 0)), 1: flat((5, 0))}).parts, ())

    def test_rows_and_blocks(self):
        self.bars({0: flat((4, 0), part((), [K])), 1: flat((4, 0), part((), [P]))}, 0)
        self.bars({0: flat((4, 0), part(), part((), [K])), 1: flat((4, 0), part(), block((1, 0), PLAIN))}, 1)
        self.bars({0: flat((4, 0), block((1, 0), PLAIN)), 1: flat((4, 0), block((1, 0), RIBS))}, 0)
        self.bars({0: flat((4, 0), block((1, 0), PLAIN)), 1: flat((4, 0), block((1, 0), PLAIN, PLAIN))}, 0)
        self.bars({0: flat((4, 0), part((), [K])), 1: flat((4, 0), part([K], [K]))}, 0)

    def blocks(self, *pairs):
        return {size: flat((4, 0), part(), block((number, 0), PLAIN)) for size, number in pairs}

    def test_lines_of_blocks(self):
        self.assertEqual(self.folds(self.blocks((0, 3), (2, 9), (5, 18))).parts[1][1], (3, 3))
        self.assertEqual(self.folds(self.blocks((7, -99), (6, -90))).parts[1][1], (-36, -9))
        self.bars(self.blocks((0, 3), (2, 8)), 1, (0, 2))
        self.bars(self.blocks((0, 3), (2, 9), (5, 17)), 1)
        self.bars(self.blocks((0, 3), (1, 13)), 1)
        self.bars(self.blocks((0, 3), (1, 3), (2, 3), (3, 3), (4, 4)), 1)
        # Any two of these go through a line, but not all three.
        found = self.bars(self.blocks((0, 0), (1, 0), (2, 2)), 1, (0, 1, 2))
        self.assertIsNone(place_of(self.blocks((0, 0), (2, 2))))
        self.assertFalse(Unfolded(1, (0, 2)).shows(self.blocks((0, 0), (1, 0), (2, 2))))
        self.assertTrue(found.shows(self.blocks((0, 0), (1, 0), (2, 2), (9, 9))))

    def test_the_first_place(self):
        left = [part(), block((2, 0), PLAIN), part([K])]
        right = [part(), block((2, 0), RIBS), part([P]), part()]
        self.bars({0: flat((4, 0), *left), 1: flat((4, 0), *right)}, 1)
        self.bars({0: flat((4, 0), *left), 1: flat((50, 0), *right)}, -1)

    def test_against_trying_all_lines(self):
        random = dice(171)
        folded, wide = 0, 0
        for _ in range(500):
            piece = random_piece(random)
            table = {}
            for size in random.sample(range(12), random.randint(1, 5)):
                parts = [told if told[0] == "row" else ("block", (at(told[1], size), 0), told[2]) for told in piece.parts]
                cast = at(piece.cast, size)
                change = random.random()
                if change < 0.05:
                    cast += random.choice([-1, 1, 20])
                elif change < 0.1 and parts:
                    parts.pop(random.randrange(len(parts)))
                elif change < 0.2 and parts:
                    place = random.randrange(len(parts))
                    if parts[place][0] == "block":
                        parts[place] = ("block", (parts[place][1][0] + random.choice([-1, 1]), 0), parts[place][2])
                    else:
                        parts[place] = part([K], [K])
                try:
                    table[size] = Piece("flat", (cast, 0), tuple(parts))
                except BadPiece:
                    continue
            if not table:
                continue
            place = place_of(table)
            if place is None:
                self.folds(table)
                folded += 1
            else:
                wide += len(self.bars(table, place).sizes) == 3
        self.assertGreater(folded, 100)
        self.assertGreater(wide, 20)

    def test_what_is_no_table(self):
        right = flat((4, 0), block((1, 0), PLAIN))
        shown = [fold({0: right}), Unfolded(0, (0, 1))]
        self.assertTrue(fold({0: right, 1000: right}))
        for thing in [{}, {0: flat((4, 1))}, {0: flat((4, 0), block((1, 1), PLAIN))}, {1001: right}, {-1: right},
                      {True: right}, {"0": right}, {None: right}, {0: None}, {0: right, 1: "flat on 4"}, [right], (right,),
                      {0: right, 1: flat((4, -1))}, {0: right, 10 ** 30: right}, right] + ODD_THINGS:
            with self.assertRaises(BadTable):
                fold(thing)
            for told in shown:
                with self.assertRaises(BadTable):
                    told.shows(thing)

    def test_the_table_stays_as_it_is_and_is_not_kept(self):
        table = {3: flat((7, 0)), 1: flat((5, 0))}
        found = fold(table)
        self.assertEqual(list(table), [3, 1])
        table.clear()
        self.assertTrue(found.shows({1: flat((5, 0))}))


class TestShows(Tables):
    def test_spoilt_pieces(self):
        table = {0: ring((8, 0), part(), block((1, 0), PLAIN)), 3: ring((14, 0), part(), block((4, 0), PLAIN))}
        piece = self.folds(table)
        for way, cast, parts in [("flat", piece.cast, piece.parts), ("round", (8, 1), piece.parts),
                                 ("round", (9, 2), piece.parts), ("round", piece.cast, piece.parts[:1]),
                                 ("round", piece.cast, piece.parts + (part(),)), ("round", piece.cast, piece.parts[::-1]),
                                 ("round", piece.cast, (part(), block((1, 2), PLAIN))),
                                 ("round", piece.cast, (part(), block((2, 1), PLAIN))),
                                 ("round", piece.cast, (part(), block((1, 1), RIBS))),
                                 ("round", piece.cast, (part(), block((1, 1), PLAIN, PLAIN))),
                                 ("round", piece.cast, (part([K]), block((1, 1), PLAIN))),
                                 ("round", piece.cast, (part(), part((), [K])))]:
            self.assertIs(Folded(Piece(way, cast, parts)).shows(table), False)
        self.assertTrue(Folded(piece).shows({3: table[3]}))
        self.assertFalse(Folded(piece).shows({**table, 4: table[3]}))
        self.assertTrue(Folded(flat((4, 2))).shows({1: flat((6, 0))}))

    def test_spoilt_places_and_sizes(self):
        blocks = {size: flat((4, 0), part(), block((number, 0), PLAIN), part([K] * (size == 3)))
                  for size, number in [(0, 0), (1, 0), (2, 2), (3, 0)]}
        right = self.bars(blocks, 1)
        for place in (-2, -1, 0, 2, 3, 10 ** 30):
            self.assertIs(Unfolded(place, right.sizes).shows(blocks), False)
        for sizes, told in [((0, 1, 2), True), ((0, 2, 3), True), ((1, 2), True), ((2, 3), True), ((0, 1), False),
                            ((0, 1, 3), False), ((0, 3), False), ((0, 2), False), ((2, 1), False), ((2, 0, 1), False),
                            ((0, 0, 2), False), ((1, 1), False), ((1, 2, 2), False), ((0, 1, 2, 3), False), ((2,), False),
                            ((), False), ((1, 4), False), ((0, 2, 4), False), ((-1, 1, 2), False), ((1, 2, 10 ** 30), False)]:
            # From 1 to 2 the number would rise by 2, and at 0 be below 0: a line does that.
            if sizes in ((1, 2), (2, 3)):
                told = place_of({size: blocks[size] for size in sizes}) == 1
            self.assertIs(Unfolded(1, sizes).shows(blocks), told, sizes)
        # These bar it too, but further on.
        self.assertEqual(place_of({size: blocks[size] for size in (0, 3)}), 2)
        self.assertFalse(Unfolded(2, (0, 3)).shows(blocks))

    def test_sizes_that_do_not_ascend(self):
        table = {size: flat((4, 0), block((number, 0), PLAIN)) for size, number in [(0, 3), (2, 8), (3, 9)]}
        for sizes, told in [((0, 2), True), ((2, 0), False), ((0, 0, 2), False), ((0, 2, 2), False), ((0, 2, 3), True),
                            ((0, 3, 2), False), ((2, 0, 3), False), ((2, 3), False), ((0, 3), False)]:
            self.assertIs(Unfolded(0, sizes).shows(table), told, sizes)

    def test_of_a_table_that_folds(self):
        table = {0: flat((4, 0)), 1: flat((5, 0))}
        self.assertFalse(Unfolded(-1, (0, 1)).shows(table))
        self.assertFalse(Unfolded(0, (0, 1)).shows(table))

    def test_ways_are_told_by_two_sizes(self):
        table = {0: flat((4, 0)), 1: ring((4, 0)), 2: flat((4, 0))}
        for sizes, told in [((0, 1), True), ((1, 2), True), ((0, 2), False), ((0, 1, 2), True)]:
            self.assertIs(Unfolded(-1, sizes).shows(table), told)


class TestAtSize(unittest.TestCase):
    def test_the_single_piece(self):
        piece = flat((8, 2), part([K], [K]), block((5, -1), PLAIN, RIBS), block((0, 3), PLAIN))
        for size in range(6):
            found = at_size(piece, size)
            self.assertIsInstance(found, Piece)
            self.assertEqual((found.way, found.cast), ("flat", (8 + 2 * size, 0)))
            self.assertEqual(found.parts, (piece.parts[0], block((5 - size, 0), PLAIN, RIBS), block((3 * size, 0), PLAIN)))

    def test_it_has_the_same_cloth_at_all_sizes(self):
        random = dice(181)
        many = 0
        for _ in range(150):
            piece = random_piece(random)
            for size in range(8):
                if trouble(piece, size) is None:
                    found = at_size(piece, size)
                    self.assertEqual(cloth(found, 0), cloth(piece, size))
                    self.assertEqual(single_at(found, 0), single_at(piece, size))
                    self.assertEqual(out_sizes(found).later, (0,))
                    self.assertTrue(Folded(piece).shows({size: found}))
                    many += 1
                else:
                    with self.assertRaises(NotOut) as caught:
                        at_size(piece, size)
                    self.assertEqual((caught.exception.row, caught.exception.why), trouble(piece, size))
        self.assertGreater(many, 200)

    def test_sizes_that_are_none(self):
        for size in ODD_THINGS + [-1, 1.0, "1"]:
            with self.assertRaises(BadSize):
                at_size(flat((-4, 0)), size)

    def test_sizes_that_do_not_come_out(self):
        for piece, size, told in [(flat((-4, 1)), 3, (0, "cast")), (flat((4, 1), part((), [K, P])), 1, (0, "parts")),
                                  (flat((4, 1), part((), [K]), block((3, -1), PLAIN)), 10 ** 30, (1, "times"))]:
            with self.assertRaises(NotOut) as caught:
                at_size(piece, size)
            self.assertEqual((caught.exception.row, caught.exception.why), told)

    def test_numbers_that_no_line_has(self):
        self.assertEqual(at_size(flat((9, 9)), 10).cast, (99, 0))
        piece = ring((4, 0), block((9, 9), PLAIN))
        self.assertEqual(at_size(piece, 10).parts, (block((99, 0), PLAIN),))
        for piece, size in [(flat((9, 9)), 11), (ring((4, 0), block((9, 9), PLAIN)), 11), (flat((0, 1)), 100),
                            (flat((0, 1)), 10 ** 30), (flat((0, 1)), 10 ** 5000), (ring((4, 0), block((0, 1), PLAIN), part([K] * 4)), 100)]:
            with self.assertRaises(TooLong):
                at_size(piece, size)
        # Numbers of loops within do not count.
        self.assertEqual(at_size(ring((90, 1), part((), [KFB])), 9).cast, (99, 0))


if __name__ == "__main__":
    unittest.main()
