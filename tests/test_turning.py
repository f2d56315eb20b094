import unittest

from allstitches.counting import out_sizes
from allstitches.errors import NotWritten
from allstitches.pieces import Piece
from allstitches.turning import inside_out, mirrored, turned, where_centred
from tests.pairs import plain_piece
from tests.things import (BO, K, KFB, P, TOG, YO, block, cloth_at, dice, flat, flipped, part, random_piece, ring, row,
                          told)

B = ("k", "b")
BP = ("p", "b")
PLAIN = row((), [K])
PURL = row((), [P])
RIBS = row([K], [P, K, K], [P])
RIBS_BACK = row([K], [P, P, K], [P])
# Own backs: the empty row, and rows of kinds that are their own backs, or of backs of each other.
OWN_BACKS = [row(), row((), [BO]), row([YO], [BO], [YO]), row([K], [P, K], [P]), row([K, P]), row([YO])]


class TestTurned(unittest.TestCase):
    def hinders(self, position, piece):
        with self.assertRaises(NotWritten) as caught:
            turned(piece)
        self.assertEqual(caught.exception.part, position)

    def becomes(self, parts, other):
        """Parts of a flat piece become other ones in the round, and those again the first ones."""
        for one, two in [("flat", "round"), ("round", "flat")]:
            found = turned(Piece(one, (6, 2), tuple(parts)))
            self.assertEqual((found.way, found.cast, found.parts), (two, (6, 2), tuple(other)))

    def test_example(self):
        found = turned(Piece("round", (4, 0), (("block", (1, 2), (((), (("k", "a"),), ()),)),)))
        self.assertEqual(found.parts, (("block", (0, 1), (((), (("k", "a"),), ()), ((), (("p", "a"),), ()))),
                                       ("row", ((), (("k", "a"),), ()))))
        self.assertEqual(found.way, "flat")

    def test_rows(self):
        self.becomes([], [])
        self.becomes([part([K, B], [K], [TOG])] * 3,
                     [part([K, B], [K], [TOG]), part([("p2tog", "a")], [P], [BP, P]), part([K, B], [K], [TOG])])
        # Without a group before alone.
        self.becomes([part(), part([K, B, YO]), part([K, B, YO])], [part(), part([YO, BP, P]), part([K, B, YO])])

    def test_even_blocks(self):
        self.becomes([block((3, -1), PLAIN, PLAIN)], [block((3, -1), PLAIN, PURL)])
        self.becomes([block((3, 1), *[PLAIN] * 20)], [block((3, 1), *[PLAIN, PURL] * 10)])
        # A round that changes the loops by 12 stays one round.
        much = row([KFB] * 6, [K])
        self.becomes([block((3, 1), much, much)], [block((3, 1), much, row((), [P], [("pfb", "a")] * 6))])
        # They begin at the other side behind one row.
        self.becomes([part((), [K]), block((3, 1), PLAIN, RIBS), part((), [K])],
                     [part((), [K]), block((3, 1), PURL, RIBS), part((), [P])])

    def test_odd_blocks(self):
        self.becomes([block((4, 2), PLAIN)], [block((2, 1), PLAIN, PURL)])
        self.becomes([block((5, 2), PLAIN), part((), [K])],
                     [block((2, 1), PLAIN, PURL), part((), [K]), part((), [P])])
        self.becomes([block((4, 2), PLAIN, RIBS, PURL), part((), [K])],
                     [block((2, 1), PLAIN, RIBS_BACK, PURL, PURL, RIBS, PLAIN), part((), [K])])
        self.becomes([part((), [K]), block((3, -4), PLAIN, RIBS, PURL), part((), [K])],
                     [part((), [K]), block((1, -2), PURL, RIBS, PLAIN, PLAIN, RIBS_BACK, PURL),
                      part((), [P]), ("row", RIBS), part((), [K]), part((), [K])])

    def test_halves_are_rounded_down(self):
        for line, half in [((-3, 2), (-2, 1)), ((-1, 0), (-1, 0)), ((1, 0), (0, 0)), ((99, -8), (49, -4))]:
            self.becomes([block(line, PLAIN)], [block(half, PLAIN, PURL), part((), [K])])
        for line, half in [((-4, 2), (-2, 1)), ((0, 0), (0, 0)), ((-98, 8), (-49, 4))]:
            self.becomes([block(line, PLAIN)], [block(half, PLAIN, PURL)])

    def test_rows_that_are_their_own_backs(self):
        for own in OWN_BACKS:
            if own[1] != (BO,):
                for line in [(4, 2), (3, 1), (0, 9), (-5, -7)]:
                    self.becomes([block(line, own)], [block(line, own)])
            self.becomes([part((), [K]), ("row", own), part((), [K])], [part((), [K]), ("row", own), part((), [K])])
        own = row([K], [P, K], [P])
        # 11 rows, and a change of 12, do not hinder them.
        self.becomes([block((4, 1), *[own] * 11)], [block((4, 1), *[own] * 11)])
        wide = row([YO] * 6 + [K], [P, K], [P] + [YO] * 6)
        self.becomes([block((4, 2), wide)], [block((4, 2), wide)])
        # One row that is none makes the block another one.
        self.becomes([block((4, 2), own, own, PLAIN)], [block((2, 1), own, own, PLAIN, own, own, PURL)])

    def test_the_side_behind_blocks(self):
        own = row([K], [P, K], [P])
        for line, side in [((2, 0), 0), ((3, 0), 1), ((3, 2), 1), ((-1, 4), 1), ((0, 0), 0)]:
            self.becomes([block(line, own), part((), [K])], [block(line, own), part((), [P if side else K])])
            self.becomes([block(line, own, own), part((), [K])], [block(line, own, own), part((), [K])])
        self.becomes([block((0, 1), own, own), part((), [K])], [block((0, 1), own, own), part((), [K])])

    def test_a_side_that_turns_with_the_size(self):
        own = row([K], [P, K], [P])
        once = block((3, 1), own)
        self.hinders(1, flat((6, 2), once, part((), [K])))
        self.hinders(1, flat((6, 2), once, block((2, 2), PLAIN, PLAIN)))
        self.hinders(1, flat((6, 2), once, block((2, 2), PLAIN)))
        self.hinders(3, flat((6, 2), once, ("row", own), block((0, 1), own, own), block((0, 0), PLAIN, own)))
        self.becomes([once, ("row", own), block((4, 0), own)], [once, ("row", own), block((4, 0), own)])
        # A second one turns it back, as far as it turns with the size.
        self.becomes([once, block((1, -3), own), part((), [K])], [once, block((1, -3), own), part((), [K])])
        self.becomes([once, block((0, 1), own), part((), [K])], [once, block((0, 1), own), part((), [P])])
        self.becomes([once, block((0, 1), own), block((2, 2), PLAIN)],
                     [once, block((0, 1), own), block((1, 1), PURL, PLAIN)])
        self.hinders(3, flat((6, 2), once, once, once, part((), [K])))
        # Even numbers of rows, and even rises, turn nothing.
        self.becomes([block((3, 1), own, own), block((4, 2), own), part((), [K])],
                     [block((3, 1), own, own), block((4, 2), own), part((), [K])])

    def test_odd_rises_hinder(self):
        for line in [(4, 1), (4, -1), (3, 9), (0, -7)]:
            self.hinders(0, flat((6, 2), block(line, PLAIN)))
            self.hinders(2, ring((6, 2), part((), [K]), part((), [K]), block(line, PLAIN, PLAIN, PURL)))

    def test_numbers_of_rows(self):
        self.hinders(0, flat((6, 2), block((4, 2), *[PLAIN] * 11)))
        self.hinders(0, flat((6, 2), block((4, 2), *[PLAIN] * 19)))
        self.becomes([block((4, 2), *[PLAIN] * 9)], [block((2, 1), *[PLAIN, PURL] * 9)])
        self.becomes([block((4, 2), *[PLAIN] * 10)], [block((4, 2), *[PLAIN, PURL] * 5)])
        self.becomes([block((4, 2), *[PLAIN] * 12)], [block((4, 2), *[PLAIN, PURL] * 6)])

    def test_changes_of_the_loops(self):
        for kind, back in [(YO, YO), (BO, BO)]:
            six, seven = row([kind] * 6, [K]), row([kind] * 7, [K])
            self.becomes([block((4, 2), six)], [block((2, 1), six, row((), [P], [back] * 6))])
            self.hinders(0, flat((6, 2), block((4, 2), seven)))
            self.hinders(0, flat((6, 2), block((4, 2), six, PLAIN, row([kind], [K]))))
            # Together they change nothing.
            less = row([BO if kind == YO else YO] * 7, [K])
            self.assertEqual(len(turned(flat((6, 2), block((4, 2), seven, PLAIN, less))).parts), 1)

    def test_numbers_of_parts(self):
        # 3 rows make 4 parts of one.
        odd, single = block((3, 2), PLAIN, PLAIN, PLAIN), part((), [K])
        self.assertEqual(len(turned(flat((6, 2), *[odd] * 10)).parts), 40)
        self.hinders(10, flat((6, 2), *[odd] * 10, single))
        self.hinders(10, flat((6, 2), single, *[odd] * 10))
        self.assertEqual(len(turned(flat((6, 2), *[odd] * 9, *[single] * 4)).parts), 40)
        self.hinders(13, flat((6, 2), *[odd] * 9, *[single] * 5))
        self.hinders(37, flat((6, 2), *[single] * 37, odd))
        self.assertEqual(len(turned(flat((6, 2), *[single] * 36, odd)).parts), 40)
        self.assertEqual(len(turned(flat((6, 2), *[single] * 40)).parts), 40)

    def test_the_least_position(self):
        own = row([K], [P, K], [P])
        odd, long, much = block((4, 1), PLAIN), block((4, 2), *[PLAIN] * 11), block((4, 2), row([YO] * 7, [K]))
        self.hinders(1, flat((6, 2), part((), [K]), long, odd, much))
        self.hinders(0, flat((6, 2), much, odd, part((), [K])))
        self.hinders(1, flat((6, 2), block((4, 1), own), part((), [K]), odd, much))
        self.hinders(2, flat((6, 2), block((4, 1), own), ("row", own), odd, much))
        self.hinders(1, flat((6, 2), part((), [K]), odd, *[part((), [K])] * 38))

    def test_against_knitting(self):
        rolls = dice(50)
        seen = {}
        for number in range(700):
            piece = plain_piece(rolls) if number % 2 else random_piece(rolls)
            try:
                found = turned(piece)
            except NotWritten:
                seen["not"] = seen.get("not", 0) + 1
                continue
            seen[piece.way] = seen.get(piece.way, 0) + 1
            self.assertNotEqual(found.way, piece.way)
            for size in range(9):
                self.assertEqual(cloth_at(found, size), cloth_at(piece, size), (piece.way, piece.cast, piece.parts))
        self.assertGreater(min(seen.values()), 50)


class TestMirrored(unittest.TestCase):
    def test_rows(self):
        rows = [("row", row([K, TOG], [K, ("c2f", "a")], [B])), ("row", row([YO, TOG]))]
        images = [("row", row([B], [("c2b", "a"), K], [("ssk", "a"), K])), ("row", row([("ssk", "a"), YO]))]
        backs = [("row", row([BP], [("c2fw", "a"), P], [("p2tog", "a"), P])), ("row", row([("p2tog", "a"), YO]))]
        for way in ("flat", "round"):
            piece = Piece(way, (9, 2), tuple(rows))
            for change, other in [(mirrored, images), (inside_out, backs)]:
                found = change(piece)
                self.assertEqual((found.way, found.cast, found.parts), (way, (9, 2), tuple(other)))

    def test_blocks(self):
        piece = flat((9, 2), block((3, -1), row([K], [P, B], []), row([K, TOG])))
        self.assertEqual(mirrored(piece).parts, (block((3, -1), row([], [B, P], [K]), row([("ssk", "a"), K])),))
        self.assertEqual(inside_out(piece).parts, (block((3, -1), row([], [BP, K], [P]), row([("p2tog", "a"), P])),))
        self.assertEqual(mirrored(flat((1, 0))).parts, ())

    def test_twice(self):
        rolls = dice(51)
        for _ in range(200):
            piece = random_piece(rolls)
            for change in (mirrored, inside_out):
                again = change(change(piece))
                self.assertEqual((again.way, again.cast, again.parts), (piece.way, piece.cast, piece.parts))

    def test_cloth(self):
        rolls = dice(52)
        seen = 0
        for number in range(300):
            piece = plain_piece(rolls, "ab") if number % 2 else random_piece(rolls)
            for change, which in ((mirrored, 3), (inside_out, 2)):
                found = change(piece)
                self.assertEqual(out_sizes(found), out_sizes(piece))
                for size in range(6):
                    looks = cloth_at(piece, size)
                    if looks is not None:
                        seen += 1
                        looks = [flipped(look, which) for look in looks]
                    self.assertEqual(cloth_at(found, size), looks)
        self.assertGreater(seen, 500)


class TestCentred(unittest.TestCase):
    def test_centred(self):
        for piece, form in [
            (flat((4, 1)), ((), 0, 1, (0,))),
            (flat((4, 1), part((), [K]), part([TOG], [K], [("ssk", "a")])), ((), 0, 1, (0,))),
            (flat((4, 1), part([TOG], [K], [TOG])), ((), 0, 1, ())),
            (flat((4, 1), part([("c2f", "a")], [K], [("c2b", "a")])), ((), 0, 1, (0,))),
            (ring((4, 1), part([P], [K, K, P])), ((), 0, 3, (0,))),
            (ring((1, 1), part((), [K, P], [K])), ((), 0, 2, (0,))),
            (ring((0, 1), part((), [K, P])), ((0,), 1, 1, ())),
            (ring((2, 1), part([P], [K, B], [P])), ((0,), 1, 1, ())),
            # A single cell of the middle is its own mirror image.
            (ring((1, 1), part([B], [P])), ((0,), 1, 1, ())),
            (ring((1, 1), part([YO], [K], [YO])), ((), 0, 1, (0,))),
            # In the second round it is not centred any more.
            (flat((1, 0), block((0, 1), row([YO], [K]))), ((0,), 1, 1, ())),
            (flat((-4, 1), part((), [K])), ((), 4, 1, (0,))),
        ]:
            self.assertEqual(told(where_centred(piece)), form, piece.parts)

    def test_against_knitting(self):
        rolls = dice(53)
        kinds = {}
        for number in range(500):
            piece = plain_piece(rolls, "aab") if number % 2 else random_piece(rolls)
            found = where_centred(piece)
            for size in range(16):
                looks = cloth_at(piece, size)
                centred = looks is not None and all(flipped(look, 3) == look for look in looks)
                self.assertEqual(size in found, centred, (piece.way, piece.cast, piece.parts))
                kinds[(looks is None, centred)] = kinds.get((looks is None, centred), 0) + 1
        self.assertGreater(min(kinds.values()), 300)


if __name__ == "__main__":
    unittest.main()
