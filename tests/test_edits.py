import unittest

from allstitches.edits import edited, edited_all, keeps, where_kept
from allstitches.errors import BadPiece, TooLong
from allstitches.faults import BadEdit, NoEdit
from allstitches.pieces import Piece, measure_of
from allstitches.reading import read_piece
from allstitches.rewriting import alike_rows
from allstitches.sameness import Verdict, compare, where_same
from allstitches.sizes import Sizes
from allstitches.writing import write_piece
from tests.pairs import plain_piece
from tests.things import K, ODD_THINGS, P, YO, block, dice, flat, part, random_piece, ring, row, told

ALL = Sizes((), 0, 1, (0,))
ONE, TWO, THREE = row([], [K]), row([], [P]), row([K], [K, P])
NEEDS = {"split": 2, "merge": 1, "first": 1, "last": 1, "gather": 1, "double": 1, "turn": 2, "alike": 3, "swap": 1,
         "drop": 1}


class Edits(unittest.TestCase):
    def check(self, piece, edit, *parts):
        before = (piece.way, piece.cast, piece.parts)
        found = edited(piece, edit)
        self.assertIsInstance(found, Piece)
        self.assertEqual((found.way, found.cast, found.parts), (piece.way, piece.cast, parts))
        self.assertEqual((piece.way, piece.cast, piece.parts), before)

    def refused(self, piece, *edits):
        for edit in edits:
            for function in (edited, where_kept, keeps, lambda piece, edit: edited_all(piece, [edit])):
                with self.assertRaises(NoEdit) as caught:
                    function(piece, edit)
                self.assertEqual(caught.exception.kind, edit[0])


class TestExample(Edits):
    def test_example(self):
        piece = read_piece("round on 8\nblock s\n  *k*\n  *p*\n")
        self.assertEqual(write_piece(edited(piece, ("turn", 0, 1))),
                         'round on 8\nrow *k*\nblock -1 + s\n  *p*\n  *k*\nrow *p*\n')
        self.assertEqual([where_kept(piece, ("turn", 0, 1)).early, keeps(piece, ("turn", 0, 1)).size,
                          bool(keeps(piece, ("split", 0, (0, 0))))], [(), 0, True])


class TestKinds(Edits):
    def test_split(self):
        piece = flat((4, 1), part((), [K]), block((5, 2), ONE, TWO), part((), [P]))
        first, last = piece.parts[0], piece.parts[2]
        for line in [(0, 0), (5, 2), (1, 1), (3, 0), (-4, 5), (9, -3)]:
            rest = (5 - line[0], 2 - line[1])
            self.check(piece, ("split", 1, line), first, block(line, ONE, TWO), block(rest, ONE, TWO), last)
        self.check(piece, ("split", 1, (-94, -7)), first, block((-94, -7), ONE, TWO), block((99, 9), ONE, TWO), last)
        self.refused(piece, ("split", 1, (-95, 0)), ("split", 1, (0, -8)), ("split", 1, (100, 0)),
                     ("split", 1, (0, 10)), ("split", 0, (0, 0)), ("split", 2, (0, 0)), ("split", 3, (0, 0)))
        for thing in [[0, 0], (0,), (0, 0, 0), (True, 0), (0, False), "s"] + ODD_THINGS:
            self.refused(piece, ("split", 1, thing))

    def test_merge(self):
        piece = flat((4, 1), block((5, 2), ONE, TWO), block((-3, 1), ONE, TWO), block((1, 0), TWO, ONE), part((), [P]),
                     part((), [P]))
        self.check(piece, ("merge", 0), block((2, 3), ONE, TWO), *piece.parts[2:])
        self.refused(piece, ("merge", 1), ("merge", 2), ("merge", 3), ("merge", 4), ("merge", 5))
        great = flat((4, 1), block((50, 5), ONE), block((49, 4), ONE), block((1, 0), ONE), block((-1, 9), ONE))
        self.check(great, ("merge", 0), block((99, 9), ONE), *great.parts[2:])
        self.refused(edited(great, ("merge", 0)), ("merge", 0))
        self.check(great, ("merge", 2), *great.parts[:2], block((0, 9), ONE))
        self.refused(flat((4, 1), block((1, 5), ONE), block((1, 5), ONE)), ("merge", 0))
        self.refused(flat((4, 1), block((1, 5), ONE)), ("merge", 0))

    def test_first_and_last(self):
        piece = flat((4, 1), part((), [K]), block((5, 2), ONE, TWO, THREE), part((), [P]))
        first, last = piece.parts[0], piece.parts[2]
        rows = [("row", one) for one in (ONE, TWO, THREE)]
        self.check(piece, ("first", 1), first, *rows, block((4, 2), ONE, TWO, THREE), last)
        self.check(piece, ("last", 1), first, block((4, 2), ONE, TWO, THREE), *rows, last)
        self.refused(piece, ("first", 0), ("first", 2), ("first", 3), ("last", 0), ("last", 2), ("last", 3))
        for kind in ("first", "last"):
            self.assertIn(block((-1, 0), ONE), edited(flat((4, 1), block((0, 0), ONE)), (kind, 0)).parts)
            self.refused(flat((4, 1), block((-99, 0), ONE)), (kind, 0))
            # 40 parts and 41.
            many = flat((4, 1), *[part((), [K])] * 38, block((1, 1), ONE))
            self.assertEqual(len(edited(many, (kind, 38)).parts), 40)
            self.refused(flat((4, 1), *[part((), [K])] * 38, block((1, 1), ONE, ONE)), (kind, 38))

    def test_gather(self):
        rows = [("row", one) for one in (ONE, TWO, THREE)]
        piece = flat((4, 1), rows[0], *rows, block((5, 2), ONE, TWO, THREE), *rows)
        self.check(piece, ("gather", 1), rows[0], block((6, 2), ONE, TWO, THREE), *rows)
        self.refused(piece, *[("gather", at) for at in (0, 2, 3, 4, 5, 6, 7, 8)])
        self.check(flat((4, 1), rows[0], block((-99, 9), ONE)), ("gather", 0), block((-98, 9), ONE))
        self.check(flat((4, 1), rows[0], block((1, 2), ONE), block((3, 4), TWO), rows[1]), ("gather", 0),
                   block((2, 2), ONE), block((3, 4), TWO), rows[1])
        self.refused(flat((4, 1), rows[0], block((99, 9), ONE)), ("gather", 0))
        # Rows behind it, another block between them, and other rows.
        self.refused(flat((4, 1), block((5, 2), ONE), rows[0]), ("gather", 0), ("gather", 1))
        self.refused(flat((4, 1), rows[0], block((0, 0), TWO), block((5, 2), ONE)), ("gather", 0), ("gather", 1))
        self.refused(flat((4, 1), rows[0], rows[1], block((5, 2), TWO, ONE)), ("gather", 0))
        self.refused(flat((4, 1), rows[0], rows[1]), ("gather", 0), ("gather", 1))
        self.check(flat((4, 1), rows[0], rows[0], block((5, 2), ONE)), ("gather", 1), rows[0], block((6, 2), ONE))
        self.refused(flat((4, 1), rows[0], rows[0], block((5, 2), ONE)), ("gather", 0))

    def test_double(self):
        self.check(flat((4, 1), block((6, 2), ONE, TWO)), ("double", 0), block((3, 1), ONE, TWO, ONE, TWO))
        self.check(flat((4, 1), block((0, 0), ONE)), ("double", 0), block((0, 0), ONE, ONE))
        self.check(flat((4, 1), block((2, 4), ONE), part((), [P])), ("double", 0), block((1, 2), ONE, ONE), part((), [P]))
        self.refused(flat((4, 1), part((), [P]), block((2, 4), ONE)), ("double", 0))
        self.check(flat((4, 1), block((-6, -8), ONE)), ("double", 0), block((-3, -4), ONE, ONE))
        for line in [(5, 2), (6, 1), (5, 1), (-1, 0), (0, -9)]:
            self.refused(flat((4, 1), block(line, ONE)), ("double", 0))
        self.refused(flat((4, 1), part((), [K])), ("double", 0), ("double", 1))
        # 20 rows and 22, a change of 12 and of 14, a measure that is too great.
        self.check(flat((4, 1), block((2, 0), *[ONE] * 10)), ("double", 0), block((1, 0), *[ONE] * 20))
        self.refused(flat((4, 1), block((2, 0), *[ONE] * 11)), ("double", 0))
        self.check(flat((4, 1), block((2, 0), row([YO] * 6))), ("double", 0), block((1, 0), *[row([YO] * 6)] * 2))
        self.refused(flat((4, 1), block((2, 0), row([YO] * 7))), ("double", 0))
        wide = flat((4, 1), block((2, 0), *[ONE] * 8), part((), [K] * 7))
        self.assertEqual(measure_of(wide.parts), 112)
        self.refused(wide, ("double", 0))

    def test_turn(self):
        rows = [("row", one) for one in (ONE, TWO, THREE)]
        piece = flat((4, 1), rows[2], block((5, 2), ONE, TWO, THREE), rows[0])
        self.check(piece, ("turn", 1, 1), rows[2], rows[0], block((4, 2), TWO, THREE, ONE), rows[1], rows[2], rows[0])
        self.check(piece, ("turn", 1, 2), rows[2], rows[0], rows[1], block((4, 2), THREE, ONE, TWO), rows[2], rows[0])
        self.refused(piece, ("turn", 1, 0), ("turn", 1, 3), ("turn", 1, -1), ("turn", 1, 4), ("turn", 0, 1),
                     ("turn", 2, 1), ("turn", 3, 1))
        for thing in ODD_THINGS:
            self.refused(piece, ("turn", 1, thing))
        self.refused(flat((4, 1), block((5, 2), ONE)), ("turn", 0, 1), ("turn", 0, 0))
        self.refused(flat((4, 1), block((-99, 2), ONE, TWO)), ("turn", 0, 1))
        self.refused(flat((4, 1), *[part((), [K])] * 38, block((1, 1), ONE, TWO)), ("turn", 38, 1))

    def test_alike(self):
        one = row([K, P], [K, P], [K])
        others = alike_rows(one)
        self.assertEqual(len(others), 4)
        piece = flat((9, 2), ("row", one), block((1, 1), TWO, one), part([K]))
        for number, other in enumerate(others):
            self.check(piece, ("alike", 0, 0, number), ("row", other), *piece.parts[1:])
            self.check(piece, ("alike", 1, 1, number), piece.parts[0], block((1, 1), TWO, other), piece.parts[2])
        self.check(piece, ("alike", 1, 0, 0), *piece.parts)
        self.check(piece, ("alike", 2, 0, 0), *piece.parts)
        self.refused(piece, ("alike", 0, 0, 4), ("alike", 0, 0, -1), ("alike", 0, 1, 0), ("alike", 0, -1, 0),
                     ("alike", 1, 2, 0), ("alike", 1, 0, 1), ("alike", 2, 0, 1), ("alike", 3, 0, 0))
        for thing in ODD_THINGS:
            self.refused(piece, ("alike", 1, thing, 0), ("alike", 1, 0, thing), ("alike", thing, 0, 0))

    def test_swap_and_drop(self):
        piece = flat((4, 1), part((), [K]), block((5, 2), ONE, TWO), part((), [P]))
        first, second, last = piece.parts
        self.check(piece, ("swap", 0), second, first, last)
        self.check(piece, ("swap", 1), first, last, second)
        self.refused(piece, ("swap", 2), ("swap", 3))
        self.check(piece, ("drop", 0), second, last)
        self.check(piece, ("drop", 1), first, last)
        self.check(piece, ("drop", 2), first, second)
        self.refused(piece, ("drop", 3))
        self.check(flat((4, 1), first), ("drop", 0))
        self.refused(flat((4, 1)), ("drop", 0), ("swap", 0))

    def test_positions(self):
        piece = flat((4, 1), block((4, 2), ONE, TWO), block((4, 2), ONE, TWO))
        for kind, many in NEEDS.items():
            more = {"split": ((1, 1),), "turn": (1,), "alike": (0, 0)}.get(kind, ())
            for at in [2, 3, 10 ** 30, -1, -2] + [thing for thing in ODD_THINGS if thing != 0]:
                self.refused(piece, (kind, at, *more))
        self.assertEqual(edited(ring((5, 5), *piece.parts), ("merge", 0)).way, "round")

    def test_errors_of_an_earlier_piece_do_not_stay(self):
        with self.assertRaises(NoEdit) as caught:
            edited(flat((4, 1), block((-99, 0), ONE)), ("first", 0))
        self.assertIsNone(caught.exception.__cause__)
        self.assertNotIsInstance(caught.exception, BadPiece)


class TestBadEdits(Edits):
    def test_what_is_no_edit(self):
        piece = flat((4, 1), block((4, 2), ONE, TWO))
        things = [(), ("splits", 0, (1, 1)), ("Split", 0, (1, 1)), ("", 0), (0, "drop"), (None, 0), (["drop"], 0),
                  (("drop",), 0), ("merge first", 0), ["drop", 0], "drop", {"drop": 0}, ("swap drop", 0)]
        for kind, many in NEEDS.items():
            things += [(kind,) + (0,) * other for other in range(6) if other != many]
            things += [[kind] + [0] * many]
        for edit in things + ODD_THINGS:
            for function in (edited, where_kept, keeps, lambda piece, edit: edited_all(piece, [edit])):
                with self.assertRaises(BadEdit):
                    function(piece, edit)

    def test_no_edit_comes_behind(self):
        with self.assertRaises(BadEdit):
            edited(flat((4, 1)), ("drop", 7, 0))
        self.refused(flat((4, 1)), ("drop", 7))


class TestEditedAll(Edits):
    def test_one_after_the_other(self):
        piece = flat((4, 1), block((4, 2), ONE, TWO), part((), [P]))
        edits = [("first", 0), ("swap", 0), ("drop", 3), ("split", 2, (1, 0))]
        found = edited_all(piece, edits)
        self.assertEqual(found.parts, (("row", TWO), ("row", ONE), block((1, 0), ONE, TWO), block((2, 2), ONE, TWO)))
        one = piece
        for edit in edits:
            one = edited(one, edit)
        self.assertEqual((one.way, one.cast, one.parts), (found.way, found.cast, found.parts))
        self.assertEqual(edits, [("first", 0), ("swap", 0), ("drop", 3), ("split", 2, (1, 0))])

    def test_none(self):
        piece = ring((4, 1), part((), [P]))
        found = edited_all(piece, [])
        self.assertEqual((found.way, found.cast, found.parts), ("round", (4, 1), piece.parts))

    def test_the_errors_of_the_first_that_has_one(self):
        piece = flat((4, 1), block((4, 2), ONE, TWO), part((), [P]))
        for second, third, error in [(("drop", 5), ("nothing",), NoEdit), (("nothing",), ("drop", 5), BadEdit),
                                     (("merge", 0), ("drop", 5), NoEdit), (None, None, BadEdit)]:
            with self.assertRaises(error) as caught:
                edited_all(piece, [("first", 0), second, third])
            if error is NoEdit:
                self.assertEqual(caught.exception.kind, second[0])
        # What the first one makes counts for the second one.
        self.refused(piece, ("drop", 3))
        self.assertEqual(len(edited_all(piece, [("first", 0), ("drop", 3)]).parts), 3)


class TestKept(Edits):
    def kept(self, piece, edit, form, *verdict):
        self.assertEqual(told(where_kept(piece, edit)), form)
        found = keeps(piece, edit)
        self.assertIsInstance(found, Verdict)
        self.assertEqual((found.is_same, found.size, found.row, found.kind), verdict)
        self.assertIs(bool(found), verdict[0])

    def test_at_all_sizes_some_or_none(self):
        piece = ring((4, 2), block((2, 1), ONE, TWO), part((), [P]))
        every = ((), 0, 1, (0,))
        for edit in [("split", 0, (0, 0)), ("split", 0, (1, 1)), ("first", 0), ("last", 0), ("turn", 0, 1),
                     ("alike", 1, 0, 0), ("split", 0, (2, 0))]:
            self.kept(piece, edit, every, True, None, None, "")
        # One of both parts comes out at few sizes, or none.
        self.kept(piece, ("split", 0, (5, 0)), ((), 3, 1, (0,)), False, 0, None, "out")
        self.kept(piece, ("split", 0, (4, -1)), ((1, 2, 3, 4), 5, 1, ()), False, 0, None, "out")
        self.kept(piece, ("split", 0, (-1, 0)), ((), 0, 1, ()), False, 0, None, "out")
        self.kept(piece, ("drop", 1), ((), 0, 1, ()), False, 0, 4, "rows")
        self.kept(piece, ("swap", 0), ((), 0, 1, ()), False, 0, 0, "look")
        other = ring((4, 2), block((0, 1), ONE, TWO), part((), [P]))
        self.kept(other, ("first", 0), ((), 1, 1, (0,)), False, 0, None, "out")
        self.kept(other, ("swap", 0), ((0,), 1, 1, ()), False, 1, 0, "look")
        self.kept(other, ("drop", 0), ((0,), 1, 1, ()), False, 1, 0, "look")
        self.kept(ring((0, 1), part((), [K]), part((), [P])), ("swap", 0), ((0,), 1, 1, ()), False, 1, 0, "look")
        grown = ring((4, 1), part([YO], [K]), part((), [P]))
        self.kept(grown, ("drop", 0), ((), 0, 1, ()), False, 0, 0, "cells")
        even = ring((4, 1), part((), [K, K]), part((), [K]))
        self.kept(even, ("drop", 0), ((), 0, 1, ()), False, 0, 1, "rows")
        self.kept(even, ("swap", 0), ((), 0, 2, (0,)), True, None, None, "")

    def test_they_compare_as_pieces(self):
        random = dice(261)
        kinds = dict.fromkeys(NEEDS, 0)
        for _ in range(400):
            piece = random.choice([random_piece, plain_piece])(random)
            kind = random.choice(list(NEEDS))
            things = {"split": [(random.randint(-1, 3), random.randint(0, 1))], "turn": [random.randint(0, 2)],
                      "alike": [random.randint(0, 1), random.randint(0, 2)]}.get(kind, [])
            edit = (kind, random.randint(0, 3), *things)
            try:
                other = edited(piece, edit)
                verdict = compare(piece, other)
            except (NoEdit, TooLong):
                continue
            kinds[kind] += 1
            found = keeps(piece, edit)
            self.assertEqual((found.is_same, found.size, found.row, found.kind),
                             (verdict.is_same, verdict.size, verdict.row, verdict.kind))
            self.assertEqual(where_kept(piece, edit), where_same(piece, other))
            if kind == "alike":
                self.assertTrue(found)
            if kind in ("split", "first", "last", "turn", "gather", "double") and not found:
                self.assertEqual(found.kind, "out")
        self.assertTrue(all(many for kind, many in kinds.items() if kind not in ("merge", "gather", "double")), kinds)

    def test_measures(self):
        # One edit alone makes no common measure above 840: at most it doubles one, as here from 60 to 120.
        one = ring((0, 1), block((4, 2), *[ONE] * 2), block((0, 0), row([], [K] * 15)))
        other = edited(one, ("double", 0))
        self.assertEqual([measure_of(piece.parts) for piece in (one, other)], [60, 120])
        self.assertTrue(keeps(one, ("double", 0)))
        self.assertEqual(where_kept(one, ("double", 0)), ALL)
        self.refused(other, ("double", 0))


if __name__ == "__main__":
    unittest.main()
