import unittest

from allstitches.kinds import KINDS, behind, is_cell, is_kind, is_word, makes, mirrored_word, takes
from tests.things import ODD_THINGS

TABLE = """
k 1 1 p k
p 1 1 k p
ktbl 1 1 ptbl ktbl
ptbl 1 1 ktbl ptbl
sl 1 1 slf sl
slf 1 1 sl slf
yo 0 1 yo yo
co 0 1 co co
bo 1 0 bo bo
kfb 1 2 pfb kfb
pfb 1 2 kfb pfb
m1l 0 1 m1lp m1r
m1r 0 1 m1rp m1l
m1lp 0 1 m1l m1rp
m1rp 0 1 m1r m1lp
k2tog 2 1 p2tog ssk
ssk 2 1 ssp k2tog
p2tog 2 1 k2tog ssp
ssp 2 1 ssk p2tog
cdd 3 1 cddp cdd
cddp 3 1 cdd cddp
c2f 2 2 c2fw c2b
c2b 2 2 c2bw c2f
c2fw 2 2 c2f c2bw
c2bw 2 2 c2b c2fw
c4f 4 4 c4fw c4b
c4b 4 4 c4bw c4f
c4fw 4 4 c4f c4bw
c4bw 4 4 c4b c4fw
"""


class TestKinds(unittest.TestCase):
    def test_table(self):
        rows = [line.split() for line in TABLE.split("\n") if line]
        self.assertEqual(KINDS, {name: (int(takes_), int(makes_), back, mirror)
                                 for name, takes_, makes_, back, mirror in rows})
        self.assertEqual(len(KINDS), 29)

    def test_a_back_of_a_back_and_a_mirror_of_a_mirror(self):
        for kind, (taken, made, back, mirror) in KINDS.items():
            self.assertEqual(KINDS[back][2], kind)
            self.assertEqual(KINDS[mirror][3], kind)
            self.assertEqual(KINDS[back][:2], (taken, made))
            self.assertEqual(KINDS[mirror][:2], (taken, made))

    def test_words(self):
        word = (("k", "a"), ("ssk", "b"))
        self.assertEqual([takes(word), makes(word)], [3, 2])
        self.assertEqual(behind(word), (("ssp", "b"), ("p", "a")))
        self.assertEqual(mirrored_word(word), (("k2tog", "b"), ("k", "a")))
        cables = (("c4f", "z"), ("yo", "c"), ("m1l", "a"), ("cdd", "a"), ("bo", "q"))
        self.assertEqual([takes(cables), makes(cables)], [8, 7])
        self.assertEqual(behind(cables), (("bo", "q"), ("cddp", "a"), ("m1lp", "a"), ("yo", "c"), ("c4fw", "z")))
        self.assertEqual(mirrored_word(cables), (("bo", "q"), ("cdd", "a"), ("m1r", "a"), ("yo", "c"), ("c4b", "z")))

    def test_the_empty_word(self):
        self.assertEqual([takes(()), makes(()), behind(()), mirrored_word(())], [0, 0, (), ()])

    def test_is_kind(self):
        self.assertTrue(all(is_kind(kind) is True for kind in KINDS))
        for thing in ODD_THINGS:
            self.assertIs(is_kind(thing), False, thing)
        for thing in ("K", "k ", "knit", ("k",), ["k"], ("k", "a")):
            self.assertIs(is_kind(thing), False, thing)

    def test_is_cell(self):
        for yarn in "abcdefghijklmnopqrstuvwxyz":
            self.assertIs(is_cell(("c4bw", yarn)), True)
        for thing in ODD_THINGS:
            self.assertIs(is_cell(thing), False, thing)
        wrong = [("k", "A"), ("k", ""), ("k", "ab"), ("k", "1"), ("k", "`"), ("k", "{"), ("k", "\u00e4"), ("k", 1),
                 ("k", None), ("k", ["a"]), ("k", b"a"), ("a", "k"), ["k", "a"], ("k", "a", "a"), ("k",), (["k"], "a"),
                 (1, "a"), (None, "a"), "ka", (("k", "a"),)]
        for thing in wrong:
            self.assertIs(is_cell(thing), False, thing)

    def test_is_word(self):
        self.assertIs(is_word(()), True)
        self.assertIs(is_word((("k", "a"),)), True)
        self.assertIs(is_word((("k", "a"), ("yo", "b")) * 500), True)
        for thing in ODD_THINGS:
            self.assertIs(is_word(thing), False, thing)
        wrong = [("k", "a"), [("k", "a")], (("k", "a"), ("k", "A")), (("k", "a"), None), ((("k", "a"),),), "", "k",
                 (["k", "a"],)]
        for thing in wrong:
            self.assertIs(is_word(thing), False, thing)


if __name__ == "__main__":
    unittest.main()
