import unittest

from allstitches.errors import NotOut
from allstitches.faults import BadTold
from allstitches.fitting import rows_fitting
from allstitches.kinds import takes
from allstitches.knitting import Needles
from allstitches.pieces import is_row
from allstitches.reading import read_row
from allstitches.writing import write_row
from tests.pairs import plain_row
from tests.test_rewriting import cost_of, words_of
from tests.things import BO, CABLE, K, ODD_THINGS, P, TOG, YO, dice, random_row, row


def worked(one, loops):
    try:
        return Needles(loops).work(one)
    except NotOut:
        return None


def stretches(word):
    return {word[low:high] for low in range(len(word)) for high in range(low + 1, len(word) + 1)}


def all_fitting(told):
    """One row of each family, found by trying all rows whose words are stretches of the words told."""
    loops = sorted(told)
    low, high = told[loops[0]], told[loops[1]]
    families = {}
    for group in stretches(high):
        for many in range(len(low) + 1):
            for end in range(many, len(low) + 1):
                one = (low[:many], group, low[end:])
                if is_row(one) and all(worked(one, number) == told[number] for number in loops):
                    key = (takes(one[0] + one[2]), takes(group), tuple(words_of(one, 8)))
                    families[key] = min(families.get(key, one), one, key=lambda told: len(told[0]))
    return sorted(families.values(), key=lambda one: (cost_of(one), one))


class TestRowsFitting(unittest.TestCase):
    def check(self, told):
        found = rows_fitting(told)
        self.assertEqual(found, all_fitting(told), told)
        return found

    def texts(self, told):
        return [write_row(one) for one in self.check({loops: read_row(text)[0] for loops, text in told.items()})]

    def test_example(self):
        told = {5: read_row("k, 2 (p, k)")[0], 9: read_row("k, 4 (p, k)")[0]}
        self.assertEqual([write_row(one) for one in rows_fitting(told)],
                         ["*k, p*, k", "*k, p*, k, p, k", "*k, p, k, p*, k", "*k, p*, k, p, k, p, k",
                          "*k, p, k, p*, k, p, k, p, k"])

    def test_two_three_and_four_numbers_of_loops(self):
        self.assertEqual(self.texts({4: "k, 2 p, k", 6: "k, 4 p, k"}),
                         ["k, *p*, k", "k, *p*, p, k", "k, *2 p*, k", "k, *p*, 2 p, k", "k, *2 p*, 2 p, k"])
        self.assertEqual(self.texts({4: "k, 2 p, k", 6: "k, 4 p, k", 7: "k, 5 p, k"}),
                         ["k, *p*, k", "k, *p*, p, k", "k, *p*, 2 p, k"])
        self.assertEqual(self.texts({4: "k, 2 p, k", 6: "k, 4 p, k", 8: "k, 6 p, k", 20: "k, 18 p, k"}),
                         ["k, *p*, k", "k, *p*, p, k", "k, *2 p*, k", "k, *p*, 2 p, k", "k, *2 p*, 2 p, k"])

    def test_words_that_no_row_gives_on_all(self):
        self.assertEqual(self.texts({2: "2 k", 3: "3 p"}), [])
        self.assertEqual(self.texts({2: "k, p", 3: "k, p, k", 4: "k, p, k, p"}), [])
        self.assertEqual(self.texts({2: "2 k", 4: "4 k", 6: "5 k, p"}), [])
        # As many cells, or fewer, on more loops.
        self.assertEqual(self.texts({2: "2 k", 4: "2 k2tog"}), [])
        self.assertEqual(self.texts({2: "2 k", 4: "c4f"}), [])
        self.assertEqual(self.check({0: (), 4: (CABLE,)}), [row((), [CABLE])])

    def test_no_loops(self):
        self.assertEqual(self.check({0: (), 1: (K,)}), [row((), [K])])
        self.assertEqual(self.texts({0: "yo", 1: "yo, k"}), ["yo, *k*"])
        self.assertEqual(self.texts({0: "yo", 1: "yo, k, yo"}), ["*yo, k*, yo"])

    def test_families_of_rows_that_work_alike(self):
        # One of each, that with the shortest before.
        for text in ["k, *p, k*", "p, *k*, yo", "2 p, *k, 2 p*, yo", "yo, *k2tog, yo*", "k, *p, 2 k*, p"]:
            one = read_row(text)
            found = self.check({loops: worked(one, loops) for loops in range(40) if worked(one, loops) is not None
                                and len(worked(one, loops)) < 14})
            self.assertEqual(len(found), 1)
            self.assertEqual(words_of(found[0]), words_of(one))
            self.assertEqual(len(found[0][0]), min(len(found[0][0]), len(one[0])))

    def test_the_order(self):
        told = {6: read_row("2 k, 2 p, 2 k")[0], 12: read_row("2 k, 2 p, 4 k, 2 p, 2 k")[0]}
        found = self.check(told)
        costs = [cost_of(one) for one in found]
        self.assertEqual(costs, sorted(costs))
        self.assertEqual(found, sorted(found, key=lambda one: (cost_of(one), one)))
        self.assertGreater(len(found), 1)
        # The order of the dict does not matter.
        self.assertEqual(rows_fitting({12: told[12], 6: told[6]}), found)

    def test_against_trying_all_rows(self):
        random = dice(141)
        several = 0
        for _ in range(250):
            one = plain_row(random, "a") if random.random() < 0.6 else random_row(random, None)
            if not one[1]:
                continue
            turns = random.sample(range(6), random.choice([2, 2, 2, 3, 4]))
            words = [one[0] + one[1] * many + one[2] for many in turns]
            if random.random() < 0.2 and words[0]:
                words[0] = words[0][:-1] + (P,)
            told = {takes(word): word for word in words if len(word) < 11}
            if len(told) > 1:
                found = self.check(told)
                several += len(found) > 1
        self.assertGreater(several, 40)

    def test_words_of_60_cells_and_of_61(self):
        told = {20: (K,) * 20, 60: (K,) * 60}
        found = rows_fitting(told)
        # Groups of 1, 2, 4, 5, 8, 10 and 20 cells, as often as they go into 20 cells, or less often.
        self.assertEqual(len(found), 21 + 11 + 6 + 5 + 3 + 3 + 2)
        for one in found:
            self.assertEqual(one[0], ())
            self.assertEqual([worked(one, loops) for loops in told], list(told.values()))
        # A group has at most 30 cells.
        self.assertEqual([len(one[1]) for one in rows_fitting({0: (), 60: (K, P) * 30})], [2, 4, 6, 10, 12, 20, 30])
        self.assertEqual(rows_fitting({0: (), 31: (K,) + (P,) * 30}), [])
        self.assertEqual(len(rows_fitting({0: (), 30: (K,) + (P,) * 29})), 1)
        for word in [(K,) * 61, (K, P) * 31]:
            with self.assertRaises(BadTold):
                rows_fitting({1: (K,), takes(word): word})

    def test_rows_of_great_numbers_of_loops(self):
        found = rows_fitting({120: (CABLE,) * 30, 240: (CABLE,) * 60})
        self.assertIn(row((), [CABLE]), found)
        self.assertIn(row((), [CABLE] * 30), found)

    def test_what_is_not_told_so(self):
        right = {1: (K,), 2: (K, K)}
        self.assertEqual(len(rows_fitting(right)), 2)
        for more in [{3: (K,)}, {0: (K,)}, {2: (TOG, K)}, {3: (YO, K)}, {-1: ()}, {True: (K,)}, {"3": (K,) * 3}, {3: [K] * 3},
                     {3: "kkk"}, {3: (K, K, None)}, {3: None}, {None: ()}, {3: row((), [K])}, {61: (K,) * 61}]:
            with self.assertRaises(BadTold, msg=repr(more)):
                rows_fitting({**{2: (K, K), 4: (K,) * 4}, **more})
        for thing in [{}, {1: (K,)}, {0: ()}, [(1, (K,)), (2, (K, K))], ((1, (K,)), (2, (K, K)))] + ODD_THINGS:
            with self.assertRaises(BadTold):
                rows_fitting(thing)
        with self.assertRaises(BadTold):
            rows_fitting({True: (K,), 2: (K, K)})
        with self.assertRaises(BadTold):
            rows_fitting({False: (), 2: (K, K)})

    def test_what_is_told_stays_as_it_is(self):
        told = {5: (K,) * 5, 3: (K,) * 3}
        rows_fitting(told).clear()
        self.assertEqual(list(told.items()), [(5, (K,) * 5), (3, (K,) * 3)])
        self.assertEqual(rows_fitting({1: (BO,), 2: (BO,) * 2})[0], row((), [BO]))


if __name__ == "__main__":
    unittest.main()
