import unittest

from allstitches.counting import out_sizes
from allstitches.errors import BadWord
from allstitches.faults import BadChart, BadText
from allstitches.kinds import KINDS
from allstitches.knitting import cloth
from allstitches.signs import Legend, counts_fit, read_chart, write_chart
from tests.pairs import plain_piece
from tests.things import BO, K, ODD_THINGS, P, TOG, YO, dice, random_piece

SIGNS = {"k": ".", "p": "-", "ktbl": "&", "ptbl": "?", "sl": "v", "slf": "w", "yo": "o", "co": "^", "bo": "_",
         "kfb": "Y", "pfb": "X", "m1l": "L", "m1r": "R", "m1lp": "l", "m1rp": "r", "k2tog": "/", "ssk": "\\",
         "p2tog": "Z", "ssp": "S", "cdd": "A", "cddp": "V", "c2f": "f", "c2b": "b", "c2fw": "F", "c2bw": "B",
         "c4f": "(", "c4b": ")", "c4fw": "[", "c4bw": "]"}
FREE = [chr(code) for code in range(33, 127) if chr(code) not in list(SIGNS.values()) + ["|", "#"]]
NONE = Legend({})
B = ("k", "b")
MORE = Legend({"+": K, "x": B, "1": ("ssk", "c"), "!": ("c4f", "z"), "~": YO})


class TestLegend(unittest.TestCase):
    def test_example(self):
        looks = read_chart("|o/.|\n# the first row\n|..-|\n", Legend({}))
        self.assertEqual([looks[0], counts_fit(looks), write_chart(looks, Legend({"+": ("k", "a")}))],
                         [(('p', 'a'), ('k', 'a'), ('k', 'a')), None, '|o/+|\n|++-|\n'])

    def test_signs_that_are_free(self):
        self.assertEqual(len(FREE), 94 - 31)
        for sign in FREE:
            self.assertEqual(write_chart([(B,)], Legend({sign: B})), f"|{sign}|\n")
            self.assertEqual(read_chart(f"|{sign}|", Legend({sign: B})), [(B,)])
        Legend({sign: ("k", chr(97 + place % 26)) if place < 26 else ("p", chr(97 + place % 26))
                for place, sign in enumerate(FREE[:52])})

    def test_signs_that_are_not(self):
        for sign in list(SIGNS.values()) + ["|", "#", " ", "", "++", "\n", "\t", "\x7f", "\xe9", "\u2603"] + \
                [thing for thing in ODD_THINGS if hashable(thing) and thing != "K"]:
            with self.assertRaises(BadChart):
                Legend({sign: B})
            with self.assertRaises(BadChart):
                Legend({"+": K, sign: B})

    def test_cells(self):
        for cell in [("x", "a"), ("k", "A"), ("k",), ["k", "a"], (K,), ()] + ODD_THINGS:
            with self.assertRaises(BadChart):
                Legend({"+": cell})
        for told in [{"+": B, "x": B}, {"+": K, "x": B, "y": ("k", "a")}]:
            with self.assertRaises(BadChart):
                Legend(told)

    def test_what_is_no_dict(self):
        for thing in [thing for thing in ODD_THINGS if thing != {} and not isinstance(thing, dict)] + [[("+", B)]]:
            with self.assertRaises(BadChart):
                Legend(thing)
        with self.assertRaises(BadChart):
            Legend({"k": 1})

    def test_what_was_given_is_copied(self):
        told = {"+": B}
        legend = Legend(told)
        told["+"] = K
        told["x"] = P
        self.assertEqual(write_chart([(B, K, P)], legend), "|-.+|\n")
        with self.assertRaises(BadText):
            read_chart("|x|", legend)


def hashable(thing):
    try:
        hash(thing)
    except TypeError:
        return False
    return True


class TestWriteChart(unittest.TestCase):
    def test_each_sign(self):
        self.assertEqual(set(SIGNS), set(KINDS))
        for kind, sign in SIGNS.items():
            for legend in (NONE, Legend({"+": (kind, "b")})):
                self.assertEqual(write_chart([((kind, "a"),)], legend), f"|{sign}|\n")

    def test_signs_of_a_legend(self):
        self.assertEqual(write_chart([(K, B, YO, ("ssk", "c"), ("c4f", "z"), ("c4f", "a"))], MORE), "|(!1~x+|\n")

    def test_the_order_of_looks_and_cells(self):
        looks = [(K, P), (TOG,), (), (YO, YO, BO)]
        self.assertEqual(write_chart(looks, NONE), "|_oo|\n||\n|/|\n|-.|\n")
        self.assertEqual(looks, [(K, P), (TOG,), (), (YO, YO, BO)])
        self.assertEqual(write_chart([], NONE), "")

    def refused(self, error, looks, legend=NONE):
        with self.assertRaises(error) as caught:
            write_chart(looks, legend)
        self.assertIs(type(caught.exception), error)

    def test_cells_without_a_sign(self):
        for looks in [[(B,)], [(K,), (K, B, K)], [(), (("yo", "z"),)]]:
            self.refused(BadChart, looks)
        self.refused(BadChart, [(B, ("p", "b"))], MORE)

    def test_what_is_no_word(self):
        for thing in [[K], "k", K, (K, "p"), ((K,),), (("k", "A"),)] + [thing for thing in ODD_THINGS if thing != ()]:
            self.refused(BadWord, [thing])
            self.refused(BadWord, [(K,), thing, (B,)])

    def test_which_of_several_errors(self):
        self.refused(BadChart, [(B,), None])
        self.refused(BadWord, [None, (B,)])
        self.refused(BadWord, [(K,), (B, None)])
        self.refused(BadChart, [(K,), (B,), (K, None)])


class TestReadChart(unittest.TestCase):
    def test_each_sign(self):
        for kind, sign in SIGNS.items():
            self.assertEqual(read_chart(f"|{sign}|\n", NONE), [((kind, "a"),)])

    def test_both_signs(self):
        self.assertEqual(read_chart("|+.~ox!1|", MORE),
                         [(("ssk", "c"), ("c4f", "z"), B, YO, YO, K, K)])

    def test_loose_texts(self):
        looks = [(K, P), (TOG,), ()]
        for text in ["||\n|/|\n|-.|\n", "||\n|/|\n|-.|", "  || \n|/|   \n\n    |-.|", "\n\n||\n   \n|/|\n|-.|\n\n  ",
                     "# one\n||\n   # two |..|\n|/|\n#|-.|\n|-.|#"[:-1], "||\n#\n|/|\n# \xe9 \t\n|-.|\n ##"]:
            self.assertEqual(read_chart(text, NONE), looks)
        for text in ["", "\n", "   ", "# one", "\n \n#\n"]:
            self.assertEqual(read_chart(text, NONE), [])

    def refused(self, text, line, column, legend=NONE):
        with self.assertRaises(BadText) as caught:
            read_chart(text, legend)
        self.assertEqual((caught.exception.line, caught.exception.column), (line, column), text)

    def test_signs_that_do_not_fit(self):
        for text, line, column in [
                (".|", 1, 1), ("x", 1, 1), ("  .|", 1, 3), ("\t|.|", 1, 1), ("|x|", 1, 2), ("|..x.|", 1, 4), ("|..+|", 1, 4),
                ("|. .|", 1, 3), ("| |", 1, 2), ("|.|.|", 1, 4), ("|.| .", 1, 5), ("|.|  |", 1, 6), ("|.||", 1, 4),
                ("|.| # one", 1, 5), ("|.#|", 1, 3), ("|#|", 1, 2), ("|.|\t", 1, 4), ("|.|\r\n|.|", 1, 4), ("|\xe9|", 1, 2),
                ("|.|\n|.|\n|,|", 3, 2), ("# x\n\n  |.|\n  |.|x", 4, 6), ("|.|\n.\n|,|", 2, 1), ("||x\n|", 1, 3),
                ("|x|\n|", 1, 2), ("|.x", 1, 3), ("|K|", 1, 2), ("|k|", 1, 2), ("1. |.|", 1, 1)]:
            self.refused(text, line, column)

    def test_the_second_edge_is_missing(self):
        for text, line, column in [("|", 1, 2), ("|..-", 1, 5), ("  |", 1, 4), ("|.|\n |.", 2, 4), ("|.\n|.|", 1, 3),
                                   ("# one\n\n|\n|x|", 3, 2)]:
            self.refused(text, line, column)
        # A blank does not fit there.
        self.refused("|.. ", 1, 4)
        self.refused("| ", 1, 2)

    def test_the_signs_are_those_of_the_legend(self):
        self.refused("|y|", 1, 2, MORE)
        self.assertEqual(read_chart("|x|", MORE), [(B,)])

    def test_what_is_no_string(self):
        for thing in [thing for thing in ODD_THINGS if not isinstance(thing, str)] + [b"|.|", ["|.|"], ("|.|",)]:
            self.refused(thing, 0, 0)

    def test_written_and_read_again(self):
        random = dice(321)
        some = 0
        signs = Legend({"x": ("k", "b"), "y": ("p", "b"), "m": ("yo", "b"), "n": ("bo", "b")})
        for _ in range(300):
            piece = random.choice([random_piece, lambda dice: plain_piece(dice, "ab")])(random)
            for size in out_sizes(piece).first(3):
                looks = cloth(piece, size)
                text = write_chart(looks, signs)
                self.assertEqual(text.count("\n"), len(looks))
                self.assertEqual(read_chart(text, signs), looks)
                self.assertIsNone(counts_fit(looks))
                some += len(looks) > 2
        self.assertGreater(some, 50)

    def test_the_list_is_new(self):
        found = read_chart("|.|", NONE)
        found.append(5)
        self.assertEqual(read_chart("|.|", NONE), [(K,)])


class TestCountsFit(unittest.TestCase):
    def test_some(self):
        for looks, row in [([], None), ([(K,)], None), ([(K, K), (P, P)], None), ([(K, K), (P,)], 1),
                           ([(K, K), (TOG,), (K,), (K, K)], 3), ([(YO,), (K,), (BO,), (), ()], None),
                           ([(YO,), (K,), (BO,), (), (K,)], 4), ([(K, K), (TOG, K)], 1), ([()], None), ([(BO,), ()], None),
                           ([(BO,), (YO,)], None), ([(YO,), ()], 1), ([(K,), (), (K,), ()], 1)]:
            self.assertEqual(counts_fit(looks), row)

    def test_spoilt_cloth(self):
        random = dice(322)
        some = 0
        for _ in range(400):
            piece = random_piece(random)
            for size in out_sizes(piece).first(2):
                looks = cloth(piece, size)
                if len(looks) > 1:
                    some += 1
                    at = random.randrange(1, len(looks))
                    self.assertEqual(counts_fit(looks[:at] + [looks[at] + (K,)] + looks[at + 1:]), at)
                    self.assertEqual(counts_fit(looks[:at] + [looks[at] + (YO,)] + looks[at + 1:]),
                                     at + 1 if at + 1 < len(looks) else None)
        self.assertGreater(some, 30)


if __name__ == "__main__":
    unittest.main()
