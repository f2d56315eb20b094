import unittest

from allstitches.errors import BadLine, BadRow, BadWord
from allstitches.kinds import KINDS
from allstitches.pieces import is_row
from allstitches.reading import read_piece, read_row
from allstitches.writing import write_line, write_piece, write_row, write_word
from tests.texts import random_row_text
from tests.things import BO, K, KFB, ODD_THINGS, P, TOG, YO, block, dice, flat, part, random_piece, ring, row

B, C = ("k", "b"), ("p", "c")


class TestWriteLine(unittest.TestCase):
    def test_each_form(self):
        for line, text in [
            ((0, 0), "0"), ((7, 0), "7"), ((-7, 0), "-7"), ((99, 0), "99"), ((-99, 0), "-99"), ((6, 4), "6 + 4 s"),
            ((6, -4), "6 - 4 s"), ((-6, 4), "-6 + 4 s"), ((-6, -4), "-6 - 4 s"), ((5, 1), "5 + s"), ((5, -1), "5 - s"),
            ((-5, 1), "-5 + s"), ((-5, -1), "-5 - s"), ((0, 2), "2 s"), ((0, 1), "s"), ((0, -1), "-s"), ((0, -2), "-2 s"),
            ((0, 9), "9 s"), ((99, -9), "99 - 9 s"), ((1, 1), "1 + s"), ((1, 0), "1"),
        ]:
            self.assertEqual(write_line(line), text)

    def test_all_are_read_back(self):
        for base in range(-99, 100):
            for rise in range(-9, 10):
                self.assertEqual(read_piece(f"flat on {write_line((base, rise))}").cast, (base, rise))

    def test_what_is_no_line(self):
        for thing in [(100, 0), (-100, 0), (0, 10), (0, -10), (1, True), (False, 1), (1, 2, 3), [1, 2]] + ODD_THINGS:
            with self.assertRaises(BadLine):
                write_line(thing)


class TestWriteWord(unittest.TestCase):
    def test_words(self):
        for word, text in [
            ((), ""), ((K,), "k"), ((K, K), "2 k"), ((K, P), "k, p"), ((K, K, P, K), "2 k, p, k"), ((B,), "k/b"),
            ((K, B, B, B), "k, 3 k/b"), ((P, C), "p, p/c"), ((K,) * 60, "60 k"), ((K, P) * 2, "k, p, k, p"),
            ((("c4bw", "z"),) * 2, "2 c4bw/z"), ((K,) * 99 + (P,), "99 k, p"), ((K,) * 1234, "1234 k"),
            ((KFB, TOG, YO, BO), "kfb, k2tog, yo, bo"),
        ]:
            self.assertEqual(write_word(word), text)

    def test_each_kind(self):
        for kind in KINDS:
            self.assertEqual(write_word(((kind, "a"),)), kind)
            self.assertEqual(write_word(((kind, "q"), (kind, "q"))), f"2 {kind}/q")

    def test_what_is_no_word(self):
        for thing in [[K], (K, None), K, (K, ("k", "A")), ((K,),), (["k", "a"],)] + ODD_THINGS:
            with self.assertRaises(BadWord):
                write_word(thing)


class TestWriteRow(unittest.TestCase):
    def test_example(self):
        self.assertEqual([write_row(read_row("k, k, k/b, *p, p*,k")), write_line((0, -2)), write_line((5, 1))],
                         ["2 k, k/b, *2 p*, k", "-2 s", "5 + s"])

    def test_rows(self):
        for one, text in [
            (row(), "nothing"), (row([K]), "k"), (row((), [K]), "*k*"), (row([K], [P]), "k, *p*"),
            (row((), [K], [P]), "*k*, p"), (row([K, K], [C, K], [K, K]), "2 k, *p/c, k*, 2 k"),
            # Equal cells in two words do not stand side by side.
            (row([K], [K], [K]), "k, *k*, k"), (row([K] * 60, [K] * 30, [K] * 60), "60 k, *30 k*, 60 k"),
            (row((), [TOG, YO]), "*k2tog, yo*"), (row([("yo", "c")] * 2), "2 yo/c"),
        ]:
            self.assertEqual(write_row(one), text)
            self.assertEqual(read_row(text), one)

    def test_what_is_no_row(self):
        for thing in [(), ((), ()), ((), (), (K,)), ((), (YO,), ()), ((K,) * 61, (), ()), [(), (), ()], ([], (), ()),
                      ((), (K,) * 31, ()), ((), (K,), (K,) * 61), (K, (), ())] + ODD_THINGS:
            with self.assertRaises(BadRow):
                write_row(thing)

    def test_loose_texts_are_written_plainly(self):
        random = dice(45)
        for _ in range(300):
            _, words = random_row_text(random)
            if is_row(words):
                text = write_row(words)
                self.assertEqual(read_row(text), words)
                self.assertNotIn("  ", text)
                self.assertEqual(write_row(read_row(text.replace(" ", "   "))), text)


class TestWritePiece(unittest.TestCase):
    def test_sign_by_sign(self):
        piece = flat((6, 4), part([K, K], [("p", "b"), K], [K, K]), block((3, 1), row((), [K]), row([K, P, K, P], [P])))
        self.assertEqual(write_piece(piece), "flat on 6 + 4 s\nrow 2 k, *p/b, k*, 2 k\n"
                                             "block 3 + s\n  *k*\n  k, p, k, p, *p*\n")
        piece = ring((0, -2), block((0, 1), row()), part(), block((-1, 0), row([YO], [K]), row(), row([BO])), part([K]))
        self.assertEqual(write_piece(piece), "round on -2 s\nblock s\n  nothing\nrow nothing\n"
                                             "block -1\n  yo, *k*\n  nothing\n  bo\nrow k\n")
        self.assertEqual(write_piece(flat((0, 0))), "flat on 0\n")
        self.assertEqual(write_piece(ring((-9, 1))), "round on -9 + s\n")

    def test_read_back_to_the_same(self):
        random = dice(46)
        for _ in range(300):
            piece = random_piece(random)
            text = write_piece(piece)
            again = read_piece(text)
            self.assertEqual((again.way, again.cast, again.parts), (piece.way, piece.cast, piece.parts))
            self.assertEqual(write_piece(again), text)
            loose = "# a piece\n\n" + text.replace("\n", "  \n\n   # more\n").replace(",", " , ")
            again = read_piece(loose)
            self.assertEqual((again.way, again.cast, again.parts), (piece.way, piece.cast, piece.parts))


if __name__ == "__main__":
    unittest.main()
