import unittest

from allstitches.errors import BadPiece, BadRow
from allstitches.faults import BadText
from allstitches.kinds import KINDS
from allstitches.pieces import Piece, is_row
from allstitches.reading import read_piece, read_row
from tests.texts import begins_a_row, is_row_text, random_row_text
from tests.things import K, ODD_THINGS, P, TOG, YO, block, dice, part, row

HEAD = "flat on 6\n"
B = ("p", "b")


class Refused(unittest.TestCase):
    def refused(self, text, line, column, read=read_piece):
        with self.assertRaises(BadText, msg=repr(text)) as caught:
            read(text)
        self.assertEqual((caught.exception.line, caught.exception.column), (line, column), repr(text))

    def refused_row(self, text, column):
        self.refused(text, 1, column, read_row)
        # In a piece it is the same, so many signs further on.
        self.refused(f"{HEAD}row {text}", 2, column + 4)
        self.refused(f"{HEAD}block 3\n  *k*\n  {text}\n", 4, column + 2)


class TestReadPiece(Refused):
    def check(self, text, way, cast, *parts):
        piece = read_piece(text)
        self.assertIsInstance(piece, Piece)
        self.assertEqual((piece.way, piece.cast, piece.parts), (way, cast, parts), text)

    def test_example(self):
        text = "flat on 6 + 4 s\nrow 2 k, *p/b, k*, 2 k\nblock 3 + s\n  *k*\n  2 (k, p), *p*\n"
        piece = read_piece(text)
        self.assertEqual([piece.way, piece.cast, piece.parts[1][1], piece.parts[1][2][1][0]],
                         ["flat", (6, 4), (3, 1), (("k", "a"), ("p", "a"), ("k", "a"), ("p", "a"))])
        self.check(text, "flat", (6, 4), part([K, K], [B, K], [K, K]),
                   block((3, 1), row((), [K]), row([K, P, K, P], [P])))

    def test_the_first_line(self):
        self.check("flat on 6\n", "flat", (6, 0))
        self.check("round on 0", "round", (0, 0))
        self.check("round  on   -5 - 2 s  \n", "round", (-5, -2))
        self.check("flat on-6+4s\n", "flat", (-6, 4))

    def test_lines_that_are_left_out(self):
        text = "\n   \n# a hat: 100 %, \u00e9\n  # more;\nround on 4\n\n#\nblock 2\n#row\n\n  k, *k*\n   \n # x\n  *p*\n#"
        self.check(text, "round", (4, 0), block((2, 0), row([K], [K]), row((), [P])))
        self.check(HEAD + "row *k*\n\n\n\n", "flat", (6, 0), part((), [K]))
        self.check(HEAD + "row *k*\n     #", "flat", (6, 0), part((), [K]))

    def test_blanks(self):
        self.check("flat on 6   \nrow   2   k  ,  *  p  /  b  ,  k  *  \nblock   s   \n  k  ,  *  k  *  \n",
                   "flat", (6, 0), part([K, K], [B, K]), block((0, 1), row([K], [K])))
        self.check("flat on 6\nrow*k*\nblock-1\n  *k*,k", "flat", (6, 0), part((), [K]),
                   block((-1, 0), row((), [K], [K])))

    def test_each_form_of_a_line(self):
        for text, line in [
            ("0", (0, 0)), ("7", (7, 0)), ("99", (99, 0)), ("-7", (-7, 0)), ("- 7", (-7, 0)), ("-0", (0, 0)),
            ("6 + 4 s", (6, 4)), ("6 - 4 s", (6, -4)), ("-6 + 4 s", (-6, 4)), ("-6 - 4 s", (-6, -4)),
            ("6 + s", (6, 1)), ("6 - s", (6, -1)), ("-6+s", (-6, 1)), ("-6-s", (-6, -1)), ("6+4s", (6, 4)),
            ("s", (0, 1)), ("-s", (0, -1)), ("- s", (0, -1)), ("2 s", (0, 2)), ("-2 s", (0, -2)), ("9s", (0, 9)),
            ("0 + 3 s", (0, 3)), ("5 + 0 s", (5, 0)), ("5 - 0 s", (5, 0)), ("0 s", (0, 0)), ("-0 s", (0, 0)),
            ("1 s", (0, 1)), ("-99 - 9 s", (-99, -9)), ("99+9 s", (99, 9)), ("0 - 0 s", (0, 0)), ("-0 - s", (0, -1)),
        ]:
            self.check(f"flat on {text}\n", "flat", line)
            self.check(f"flat on 0\nblock {text}\n  *k*\n", "flat", (0, 0), block(line, row((), [K])))

    def test_words_of_lines_that_do_not_fit(self):
        for text, column in [
            ("k", 1), ("s s", 3), ("-", 2), ("- ", 3), ("--5", 2), ("+ 5", 1), ("5 5", 3), ("5 +", 4), ("5 + ", 5),
            ("5 + 4", 6), ("5 + 4  ", 8), ("5 + -4 s", 5), ("5 + k", 5), ("5 + 4 k", 7), ("5 + 4 s s", 9), ("5 s s", 5),
            ("5 s + 4", 5), ("s + 4", 3), ("5 * s", 3), ("(5)", 1), ("ss", 1), ("5 + s2", 5), ("- + s", 3), ("", 1),
            ("5 + 4 + s", 7), ("5, 4", 2), ("1000", 1), ("01", 1), ("00", 1), ("5 + 04 s", 5), ("5 + 1000 s", 5),
            ("-007", 2), ("5 / s", 3), ("-s - s", 4), ("5 + s -", 7),
        ]:
            self.refused(f"flat on {text}\nrow k", 1, 8 + column)
            self.refused(f"flat on 6\nblock {text}\n  *k*\n", 2, 6 + column)

    def test_the_first_words_of_lines(self):
        for text, column in [
            ("on 6", 1), ("flat 6", 6), ("flat", 5), ("flat  ", 7), ("flaton 6", 1), ("flat on", 8), ("flat flat on", 6),
            ("row k", 1), ("6", 1), ("*k*", 1), ("flats on 6", 1), ("round no 6", 7), ("in the round on 6", 1),
        ]:
            self.refused(text, 1, column)
        for text, column in [("rows k", 1), ("k", 1), ("flat on 6", 1), ("2 k", 1), ("rowk", 1), ("blocks", 1),
                             ("nothing", 1), ("row", 4), ("row  ", 6), ("block", 6), ("block2", 1), ("row row k", 5)]:
            self.refused(f"{HEAD}{text}", 2, column)
            self.refused(f"{HEAD}row k\n# more\n{text}\nrow ;", 4, column)
            self.refused(f"{HEAD}block 2\n  *k*\n{text}\nrow ;", 4, column)

    def test_wrong_indentation(self):
        for many in (1, 2, 3, 9):
            blanks = " " * many
            self.refused(f"{blanks}flat on 6\n", 1, many + 1)
            self.refused(f"{HEAD}{blanks}row k\n", 2, many + 1)
            self.refused(f"{HEAD}{blanks}block 2\n  *k*\n", 2, many + 1)
            self.refused(f"{HEAD}row k\n{blanks}*k*\n", 3, many + 1)
            self.refused(f"{HEAD}block 2\n  *k*\nrow k\n{blanks}*k*\n", 5, many + 1)
        for many in (0, 1, 3, 4, 10):
            blanks = " " * many
            self.refused(f"{HEAD}block 2\n{blanks}*k*\n", 3, many + 1)
            self.refused(f"{HEAD}block 2\n  *k*\n{blanks}*k*\n", 4, many + 1)
        # The rows of a block that has none yet.
        self.refused(f"{HEAD}block 2\nrow k\n", 3, 1)
        self.refused(f"{HEAD}block 2\nblock 2\n  *k*\n", 3, 1)
        # Two blanks, and then no row.
        self.refused(f"{HEAD}block 2\n  *k*\n  row k\n", 4, 3)
        self.refused(f"{HEAD}block 2\n  *k*\n  block 2\n", 4, 3)
        # A tab is no blank.
        self.refused(f"{HEAD}block 2\n\t*k*\n", 3, 1)
        self.refused(f"{HEAD}\t\nrow k\n", 2, 1)

    def test_signs_that_are_no_part_of_a_word(self):
        for text, line, column in [
            ("Flat on 6", 1, 1), ("flat on 6;", 1, 10), ("flat on\t6", 1, 8), ("flat on 6\r\n", 1, 10),
            (HEAD + "row k, P", 2, 8), (HEAD + "row k # one", 2, 7), (HEAD + "row [k]", 2, 5), (HEAD + "row k\u00a0", 2, 6),
            (HEAD + "row k, \u00e9", 2, 8), (HEAD + "row \u0662 k", 2, 5), (HEAD + "row \u212a", 2, 5), (HEAD + "$", 2, 1),
            # Also in a line that is wrongly indented, and behind a word that does not fit.
            (" flat on 6!", 1, 11), (HEAD + "   row k!", 2, 9), (HEAD + "block 2\n*k* K", 3, 5),
            (HEAD + "block 2\n k; K", 3, 3), (HEAD + "row k k k.k", 2, 10), (HEAD + "rows 1000 =", 2, 11),
            (HEAD + "row k k \n = ", 2, 7), (HEAD + "row purl: K", 2, 9), (HEAD + "row k,_ &", 2, 7),
        ]:
            self.refused(text, line, column)

    def test_the_first_line_that_does_not_fit(self):
        self.refused("flat on 6\nrow q\nrow Q\n", 2, 5)
        self.refused("\n\n# x\nflat on 6\n\nrow k,\nrow !", 6, 7)
        self.refused("flat on\nrow !", 1, 8)
        self.refused("flat on 6\nblock\nrow !", 2, 6)

    def test_a_block_without_rows_at_the_end(self):
        self.refused(HEAD + "block 2", 3, 1)
        self.refused(HEAD + "block 2\n", 3, 1)
        self.refused(HEAD + "block 2\n\n\n# *k*\n", 3, 1)
        self.refused("#\n\n" + HEAD + "\nrow k\n\nblock 2\n  \n", 8, 1)
        self.refused(HEAD + "block 2\n  *k*\nblock 3\n  # *k*", 5, 1)

    def test_a_text_without_lines(self):
        for text in ["", "\n", "   ", "\n\n  \n", "#", "# flat on 6\n  # row k\n\n"]:
            self.refused(text, 1, 1)

    def test_what_is_not_a_string(self):
        for thing in [b"flat on 6", ["flat on 6"]] + [thing for thing in ODD_THINGS if not isinstance(thing, str)]:
            self.refused(thing, 0, 0)
            self.refused(thing, 0, 0, read_row)

    def no_piece(self, text, position):
        with self.assertRaises(BadPiece, msg=text) as caught:
            read_piece(text)
        self.assertEqual(caught.exception.part, position, text)

    def test_what_is_no_piece(self):
        for line in ["100", "999", "-100", "10 s", "-10 s", "5 + 10 s", "5 - 999 s", "100 + s"]:
            self.no_piece(f"flat on {line}\nrow *yo*\n", None)
            self.no_piece(f"flat on 6\nrow k\nblock {line}\n  *k*\nrow *yo*\n", 1)
        for text in ["*yo*", "61 k", "31 (k, p)", "*31 k*", "*k*, 61 k", "999 (999 (999 k))", "60 k, yo", "*2 (15 k), p*",
                     "*k, yo*, 30 k, 31 p"]:
            self.no_piece(HEAD + f"row k\nrow {text}\nrow *yo*\n", 1)
            self.no_piece(HEAD + f"block 2\n  *k*\n  {text}\nrow k\n", 0)
        # Rows that make no block: of groups that make more, too many, with too great a change.
        self.no_piece(HEAD + "row *kfb*\nblock 2\n  *kfb*\n", 1)
        self.no_piece(HEAD + "row k\nblock 2\n" + "  *k*\n" * 21, 1)
        self.no_piece(HEAD + "block 2\n  13 yo, *k*\n", 0)
        self.assertEqual(len(read_piece(HEAD + "block 2\n" + "  *k*\n" * 20).parts[0][2]), 20)
        # Too many parts, a measure and a growth that are too great; a part is told first.
        self.assertEqual(len(read_piece(HEAD + "row k\n" * 40).parts), 40)
        self.no_piece(HEAD + "row k\n" * 41, None)
        self.no_piece(HEAD + "row *3 k*\nrow *5 k*\nrow *7 k*\n", None)
        self.no_piece(HEAD + "row *13 (yo, k)*\n", None)
        self.no_piece(HEAD + "row *3 k*\nrow *5 k*\nrow *7 k*\nrow *bo, yo*, 61 k\n", 3)

    def test_the_form_is_told_before_what_is_no_piece(self):
        self.refused("flat on 999\nrow 61 k\nrow k,\n", 3, 7)
        self.refused("flat on 6\nrow *yo*\nblock 2\n", 4, 1)


class TestReadRow(Refused):
    def test_example(self):
        self.assertEqual(read_row("k, *k2tog, yo*"), ((("k", "a"),), (("k2tog", "a"), ("yo", "a")), ()))

    def test_each_form_of_a_row(self):
        for text, one in [
            ("nothing", row()), ("nothing  ", row()), ("k", row([K])), ("k, p", row([K, P])), ("*k*", row((), [K])),
            ("k, *p*", row([K], [P])), ("*k*, p", row((), [K], [P])), ("k, *p*, k", row([K], [P], [K])),
            ("k,p,*p,k*,k,p", row([K, P], [P, K], [K, P])), ("2 k, *3 p*, 1 k", row([K] * 2, [P] * 3, [K])),
            ("2k,*3p*,1k", row([K] * 2, [P] * 3, [K])), ("p/b, 2 p / b", row([B] * 3)), ("p/a", row([P])),
            ("2 (k, p)", row([K, P] * 2)), ("1 (k)", row([K])), ("2 (3 (k, 2 p), yo)", row(([K, P, P] * 3 + [YO]) * 2)),
            ("*2 (k, p)*, 2 (k2tog)", row((), [K, P] * 2, [TOG] * 2)), ("60 k", row([K] * 60)),
            ("k, 2 (k, p), k, *k*", row([K, K, P, K, P, K], [K])), ("*30 p*, 60 p", row((), [P] * 30, [P] * 60)),
        ]:
            self.assertEqual(read_row(text), one, text)
            self.assertEqual(read_piece(f"{HEAD}row {text}\n").parts, (("row", one),))

    def test_each_kind(self):
        for kind in KINDS:
            self.assertEqual(read_row(kind), row([(kind, "a")]))
            self.assertEqual(read_row(f"k, *k, 2 {kind}/z*"), row([K], [K] + [(kind, "z")] * 2))

    def test_texts_told_at_random(self):
        random = dice(41)
        rows = 0
        for _ in range(600):
            text, words = random_row_text(random)
            if is_row(words):
                rows += 1
                self.assertEqual(read_row(text), words, text)
            else:
                with self.assertRaises(BadRow):
                    read_row(text)
        self.assertGreater(rows, 400)

    def test_the_first_word_that_does_not_fit(self):
        words = "k yo c2fw 3 12 0 1000 04 b ab purl nothing , , , * * / ( ) + - s".split()
        random = dice(42)
        wrong = 0
        for _ in range(3000):
            told = [random.choice(words) for _ in range(random.randint(1, 4))]
            if random.random() < 0.7:
                told = random.choice(["k ,", "* k", "k , * p", "* k * ,", "2 ( k", "3 ( 2 ( k ,", "k / b"]).split() + told
            text, columns = "", []
            for word in told:
                text += " " * (random.randint(1, 3) if text else 0)
                columns.append(len(text) + 1)
                text += word
            if is_row_text(told):
                continue
            fitting = [many for many in range(len(told) + 1) if begins_a_row(told[:many])]
            columns.append(len(text) + 1)
            self.refused(text, 1, columns[max(fitting)], read_row)
            wrong += max(fitting) < len(told)
        self.assertGreater(wrong, 1500)

    def test_words_that_do_not_fit(self):
        for text, column in [
            ("knit", 1), ("k p", 3), ("k,, p", 3), (", k", 1), ("k, knit", 4), ("a", 1), ("nothing, k", 8),
            ("k, nothing", 4), ("nothing nothing", 9), ("k *p*", 3), ("*p* k", 5), ("*k*, *p*", 6), ("k, *p*, *k*", 9),
            ("**", 2), ("*k, *", 5), ("*, k*", 2), ("*nothing*", 2), ("*k*, k, *k*", 9), ("(k)", 1), ("2 (k", 5),
            ("2 (*k*)", 4), ("2 ()", 4), ("2 (k,)", 6), ("k)", 2), ("*2 (k*)", 6), ("2 2 k", 3), ("2, k", 2), ("2", 2),
            ("0 k", 1), ("00 k", 1), ("01 k", 1), ("1000 k", 1), ("k, 1000 (k)", 4), ("0 (k)", 1), ("k/", 3), ("k//b", 3),
            ("k/bb", 3), ("k/b1", 3), ("k/1", 3), ("k/b/c", 4), ("k/,", 3), ("k + p", 3),
            ("k-p", 2), ("2 -k", 3), ("s", 1), ("k2", 1), ("c2", 1), ("k2tog2", 1), ("3k3", 2), ("k,", 3), ("k, *", 5),
            ("*k", 3), ("*k*,", 5), ("k, *p*,  ", 10), ("1234567890 k", 1),
        ]:
            self.refused_row(text, column)
        # A yarn may be called as a kind is.
        self.assertEqual(read_row("k/k, p/p"), row([("k", "k"), ("p", "p")]))

    def test_parentheses_ten_deep_and_eleven_deep(self):
        self.assertEqual(read_row("1 (" * 10 + "k" + ")" * 10), row([K]))
        self.assertEqual(read_row("p, *" + "1(" * 10 + "2 k" + ")" * 10 + "*, yo"), row([P], [K] * 2, [YO]))
        self.assertEqual(read_row("2 (" * 5 + "k" + ")" * 5), row([K] * 32))
        self.assertEqual(read_row("1 (" * 9 + "k, 2 (p), 2 (p)" + ")" * 9), row([K] + [P] * 4))
        self.refused_row("1 (" * 11 + "k" + ")" * 11, 33)
        self.refused_row("1 (" * 1000, 33)
        self.refused_row("*k*, " + "1 (" * 11 + "k" + ")" * 11, 38)
        self.assertEqual(read_row("k, *p*, " + "1 (" * 10 + "k" + ")" * 10), row([K], [P], [K]))
        self.refused_row("*" + "1 (" * 10 + "k, 1 (p)" + ")" * 10 + "*", 1 + 30 + 3 + 3)
        # Numbers as great as can be: not all cells are made.
        with self.assertRaises(BadRow):
            read_row("999 (" * 10 + "999 k" + ")" * 10)
        with self.assertRaises(BadPiece):
            read_piece(HEAD + "row *k*, " + "999 (" * 10 + "999 k, k2tog" + ")" * 10 + ", k")

    def test_numbers_of_three_digits(self):
        for text in ["100 k", "999 k", "61 k", "*31 k*", "*k*, 61 k", "60 k, k", "30 (k, p), k", "2 (31 k)"]:
            with self.assertRaises(BadRow):
                read_row(text)
        self.assertEqual(read_row("60 k, *30 k*, 60 k"), row([K] * 60, [K] * 30, [K] * 60))

    def test_what_is_no_row(self):
        for text in ["*yo*", "k, *yo, m1l*, k", "*co*"]:
            with self.assertRaises(BadRow):
                read_row(text)
        self.assertEqual(read_row("*bo*"), row((), [("bo", "a")]))

    def test_an_indented_text(self):
        for text, column in [(" k", 2), ("  *k*", 3), ("   q", 4), ("    nothing", 5)]:
            self.refused(text, 1, column, read_row)

    def test_signs_that_are_no_part_of_a_word(self):
        for text, column in [("k\n", 2), ("k\np", 2), ("\nk", 1), ("# k", 1), ("k, p # more", 6), ("k k K", 5), (" k !", 4),
                             ("k\tp", 2), ("k/B", 3), ("*k*;", 4), ("k.", 2), ("k_", 2), ("2 \u00d7 k", 3), ("'k'", 1)]:
            self.refused(text, 1, column, read_row)

    def test_no_words(self):
        self.refused("", 1, 1, read_row)
        self.refused("   ", 1, 4, read_row)
        self.refused(f"{HEAD}row ", 2, 5)


if __name__ == "__main__":
    unittest.main()
