import unittest

from allstitches.errors import BadSizes
from allstitches.faults import BadText
from allstitches.settexts import read_sizes, write_sizes
from allstitches.sizes import Sizes
from tests.things import ODD_THINGS, dice, told

ALL = Sizes((), 0, 1, (0,))
NONE = Sizes((), 0, 1, ())


class TestWriteSizes(unittest.TestCase):
    def test_example(self):
        self.assertEqual([write_sizes(read_sizes("4 + 6n, 1, 6 + 6 n, 8+6 n")), write_sizes(~read_sizes("0 + 1 n"))],
                         ["1, 4 + 2 n", "none"])

    def test_texts(self):
        for sizes, text in [
            (NONE, "none"), (ALL, "0 + 1 n"), (Sizes((3,), 4, 1, ()), "3"), (Sizes((0,), 1, 1, ()), "0"),
            (Sizes((0, 2, 5), 6, 1, ()), "0, 2, 5"), (Sizes((), 7, 1, (0,)), "7 + 1 n"),
            (Sizes((), 0, 6, (1, 2, 5)), "1 + 6 n, 2 + 6 n, 5 + 6 n"), (Sizes((1,), 3, 2, (1,)), "1, 4 + 2 n"),
            (Sizes((1,), 9, 5, (0, 4)), "1, 9 + 5 n, 13 + 5 n"),
            # The form is the least one, however it was made.
            (Sizes((4,), 6, 4, (0, 2)), "4 + 2 n"), (Sizes((), 100, 12, (0, 6)), "100 + 6 n"),
        ]:
            self.assertEqual(write_sizes(sizes), text)
            self.assertEqual(read_sizes(text), sizes)

    def test_numbers_of_999_and_above(self):
        for sizes, text in [
            (Sizes((999,), 1000, 1, ()), "999"), (Sizes((), 999, 1, (0,)), "999 + 1 n"),
            (Sizes((), 0, 999, (0,)), "0 + 999 n"), (Sizes((), 0, 999, (998,)), "998 + 999 n"),
            (Sizes((998,), 999, 2, (0,)), "998, 999 + 2 n"),
            # A start that is not written.
            (Sizes((5, 999), 1000, 1, ()), "5, 999"),
        ]:
            self.assertEqual(write_sizes(sizes), text)
            self.assertEqual(read_sizes(text), sizes)
        for sizes in [Sizes((1000,), 1001, 1, ()), Sizes((), 1000, 1, (0,)), Sizes((), 0, 1000, (0,)),
                      Sizes((), 998, 2, (0,)) | Sizes((), 1001, 2, (0,)), Sizes((), 500, 600, (0, 500)),
                      Sizes((3, 100000), 100001, 1, ()), Sizes((), 0, 5040, (7,))]:
            with self.assertRaises(BadSizes):
                write_sizes(sizes)

    def test_written_and_read_back(self):
        random = dice(351)
        for _ in range(200):
            start, period = random.randint(0, 20), random.randint(1, 30)
            early = tuple(size for size in range(start) if random.random() < 0.3)
            sizes = Sizes(early, start, period, tuple(rest for rest in range(period) if random.random() < 0.3))
            self.assertEqual(read_sizes(write_sizes(sizes)), sizes)


class TestReadSizes(unittest.TestCase):
    def test_any_order_told_twice_and_blanks(self):
        for text, form in [
            ("1,2,3", ((1, 2, 3), 4, 1, ())), ("3, 1, 2, 1, 3", ((1, 2, 3), 4, 1, ())),
            ("0+2n,1+2n", ((), 0, 1, (0,))), ("1 + 2 n, 0 + 2 n", ((), 0, 1, (0,))),
            ("5+5n", ((), 1, 5, (4,))), ("5  +  5  n   ", ((), 1, 5, (4,))), ("5   ,6 ", ((5, 6), 7, 1, ())),
            ("7 + 3 n, 4, 10", ((), 2, 3, (2,))), ("none", ((), 0, 1, ())), ("none  ", ((), 0, 1, ())),
            ("2+4n, 2+6n", None), ("0 + 1 n, 900", ((), 0, 1, (0,))), ("999, 0+999n", ((), 0, 999, (0,))),
            ("999 + 999 n", ((), 1, 999, (998,))), ("0", ((0,), 1, 1, ())), ("3 + 1 n, 9+7n", ((), 3, 1, (0,))),
        ]:
            found = read_sizes(text)
            self.assertIsInstance(found, Sizes)
            if form is None:
                self.assertEqual(found.first(6), [2, 6, 8, 10, 14, 18])
            else:
                self.assertEqual(told(found), form, text)

    def test_against_the_words_of_the_point(self):
        random = dice(352)
        for _ in range(150):
            items = [(random.randint(0, 30), random.choice([0, 0, 1, 2, 3, 4, 6, 8, 12])) for _ in range(4)]
            text = ",".join(f"{first}+{step}n" if step else str(first) for first, step in items)
            found = read_sizes(text)
            for size in range(120):
                right = any(size >= first and (size == first or step and (size - first) % step == 0)
                            for first, step in items)
                self.assertEqual(size in found, right, text)

    def refused(self, text, column, line=1):
        with self.assertRaises(BadText) as caught:
            read_sizes(text)
        self.assertEqual((caught.exception.line, caught.exception.column), (line, column), text)

    def test_a_text_that_ends_too_early(self):
        for text in ["", " ", "  ", "1,", "1 ,  ", "1 +", "1 + 2", "1 + 2  "]:
            self.refused(text, len(text) + 1)

    def test_a_word_that_does_not_fit(self):
        for text, column in [
            ("n", 1), ("all", 1), ("1 n", 3), ("1 2", 3), ("1, none", 4), ("none, 1", 5), ("none none", 6), (", 1", 1),
            ("1,, 2", 3), ("1 + n", 5), ("1 + 0 n", 5), ("1 + 2 m", 7), ("1 + 2 nn", 7), ("1 + 2 n n", 9),
            ("1 - 2 n", 3), ("-1", 1), ("1 + + 2 n", 5), ("1 + 2 n + 3 n", 9), ("(1)", 1), ("2 * n", 3),
            # Numbers of four digits, and a 0 in front of another digit.
            ("1000", 1), ("1, 1000 + 2 n", 4), ("1 + 1000 n", 5), ("01", 1), ("00", 1), ("5, 007", 4), ("1 + 02 n", 5),
            ("1 + 00 n", 5), ("3+4n5", 4), ("1, 2 3, ", 6), ("1" * 5000, 1),
        ]:
            self.refused(text, column)

    def test_signs_that_are_no_part_of_a_word(self):
        for text, column in [("1; 2", 2), ("1, 2 3 ; 4", 8), ("1, N", 4), ("1\n", 2), ("\n1", 1), ("1\t", 2), ("1.5", 2),
                             ("  1 #", 5), ("\u0661", 1), ("1, 2\u00b2", 5), ("1 + 2 n\u00e9", 8), ("# none", 1),
                             ("1 = 2, !", 3), ("1\u00a0", 2), ("_", 1), ("none_", 5)]:
            self.refused(text, column)

    def test_an_indented_text(self):
        for text, column in [(" 1", 2), ("  1, 2", 3), ("   none", 4), ("  n", 3)]:
            self.refused(text, column)

    def test_what_is_not_a_string(self):
        for thing in [1, b"1", ["1"], NONE] + [thing for thing in ODD_THINGS if not isinstance(thing, str)]:
            self.refused(thing, 0, 0)

    def test_a_common_step_of_5040_and_above(self):
        self.assertEqual(read_sizes("0 + 720 n, 1 + 7 n").period, 5040)
        self.assertEqual(read_sizes("0 + 16 n, 0 + 9 n, 0 + 5 n, 1 + 7 n").period, 5040)
        for text in ["0 + 11 n, 0 + 461 n", "0 + 720 n, 0 + 11 n", "0 + 16 n, 0 + 9 n, 0 + 5 n, 0 + 7 n, 0 + 11 n",
                     # Also where the set would have a least form.
                     "0 + 1 n, 0 + 997 n, 0 + 991 n", "998 + 997 n, 998 + 991 n, 0 + 1 n"]:
            with self.assertRaises(BadSizes):
                read_sizes(text)
        # What is no text is told before.
        self.refused("0 + 997 n, 0 + 991 n, 1 + 2", 28)
        self.assertEqual(read_sizes("0 + 999 n, 1 + 5 n").period, 4995)
        # A size alone has no step.
        self.assertEqual(read_sizes("997, 991, 983, 0 + 977 n").first(6), [0, 977, 983, 991, 997, 1954])


if __name__ == "__main__":
    unittest.main()
