import unittest

from allstitches.costs import cheapest, cost
from allstitches.errors import BadRow
from allstitches.pieces import is_row
from allstitches.reading import read_row
from allstitches.rewriting import Thrift, alike_rows, are_alike, thrift
from allstitches.writing import write_row
from tests.pairs import alike_row, plain_row
from tests.things import K, KFB, ODD_THINGS, P, TOG, YO, dice, random_row, row


def words_of(one, turns=6):
    return [one[0] + one[1] * many + one[2] for many in range(turns)]


def all_alike(one):
    """All rows that work like a row with a group, found by trying all cuts."""
    first, second = words_of(one, 2)
    wide = len(one[1])
    found = []
    for cut in range(len(first) + 1):
        other = (first[:cut], second[cut:cut + wide], first[cut:])
        if is_row(other) and words_of(other) == words_of(one):
            found.append(other)
    return found


def cost_of(one):
    return sum(cost(cheapest(word).writing) for word in one) + (2 if one[1] else 0)


def random_rows(seed, many):
    random = dice(seed)
    for _ in range(many):
        way = random.randint(0, 3)
        if way == 0:
            yield random_row(random, None)
        elif way == 1:
            yield plain_row(random, "ab")
        else:
            # Groups that are powers, in words that go on as they do.
            core = tuple((random.choice("kp"), "a") for _ in range(random.randint(1, 3)))
            before = (core * 3)[random.randint(0, 3 * len(core)):]
            after = (core * 3)[:random.randint(0, 3 * len(core))]
            yield ((P,) * random.randint(0, 1) + before, core * random.randint(1, 3), after + (K,) * random.randint(0, 1))


class TestAlikeRows(unittest.TestCase):
    def test_example(self):
        one = read_row("k, p, *k, p*, k")
        self.assertEqual([[write_row(other) for other in alike_rows(one)], thrift(one).costs],
                         [["*k, p*, k, p, k", "k, *p, k*, p, k", "k, p, *k, p*, k", "k, p, k, *p, k*"], [7, 7, 7, 7]])

    def test_rows_without_a_group(self):
        for one in (row(), row([K]), row([K, P] * 30)):
            self.assertEqual(alike_rows(one), [one])

    def test_against_trying_all_cuts_in_their_order(self):
        several = 0
        for one in random_rows(121, 400):
            if one[1]:
                found = alike_rows(one)
                self.assertEqual(found, all_alike(one), one)
                self.assertIn(one, found)
                several += len(found) > 2
                for other in found:
                    self.assertEqual(alike_rows(other), found)
        self.assertGreater(several, 100)

    def test_groups_that_go_on_in_what_is_before_and_behind(self):
        for text, many in [("*k*", 1), ("k, *k*", 2), ("*k*, 3 k", 4), ("p, 2 k, *k*, 2 k, p", 5), ("*k, p*", 1),
                           ("p, *k, p*", 2), ("k, *k, p*", 1), ("*k, p*, k", 2), ("*k, p*, k, k", 2), ("*2 k*, k", 2),
                           ("k, *2 k*, k", 3), ("*2 (k, p)*, k, p, k", 4), ("*k, 2 p*, k, p, k", 3), ("*k, 2 p*, k, 2 p", 4),
                           ("yo, *k2tog, yo*", 2), ("yo, *k2tog, yo*, k2tog", 3), ("*k*, k/b", 1)]:
            self.assertEqual(len(alike_rows(read_row(text))), many, text)

    def test_limits_of_the_words_of_a_row(self):
        one = row([K] * 60, [K] * 30, [K] * 60)
        self.assertEqual(alike_rows(one), [one])
        self.assertEqual(len(alike_rows(row([K] * 30, [K] * 30, [K] * 30))), 61)
        found = alike_rows(row([K] * 60, [K] * 2, [K] * 50))
        self.assertEqual([len(other[0]) for other in found], list(range(50, 61)))
        found = alike_rows(row([K] * 10, [K], [K] * 60))
        self.assertEqual([len(other[0]) for other in found], list(range(10, 61)))
        found = alike_rows(row([K, P] * 30, [K, P] * 15, [K, P] * 30))
        self.assertEqual(found, [row([K, P] * 30, [K, P] * 15, [K, P] * 30)])

    def test_what_is_no_row(self):
        right = thrift(row())
        for thing in [(), ((), (), (K,)), ((), (YO,), ()), ((K,) * 61, (), ()), [(), (), ()]] + ODD_THINGS:
            for function in (alike_rows, thrift, right.shows):
                with self.assertRaises(BadRow):
                    function(thing)
            for pair in [(thing, row()), (row(), thing), (thing, thing)]:
                with self.assertRaises(BadRow):
                    are_alike(*pair)

    def test_the_list_is_new(self):
        one = row([K], [K])
        alike_rows(one).clear()
        self.assertEqual(len(alike_rows(one)), 2)


class TestAreAlike(unittest.TestCase):
    def test_rows_without_a_group(self):
        self.assertTrue(are_alike(row([K]), row([K])))
        self.assertFalse(are_alike(row([K]), row([P])))
        self.assertFalse(are_alike(row(), row((), [K])))
        self.assertFalse(are_alike(row((), [K]), row()))
        self.assertTrue(are_alike(row(), row()))

    def test_the_same_words_on_the_same_loops(self):
        for one, other, told in [("k, *k*", "*k*, k", True), ("*k*", "*2 k*", False), ("k, *k*", "2 k, *k*", False),
                                 ("*2 k*, k", "k, *2 k*", True), ("*k, p*, k", "k, *p, k*", True),
                                 ("*k, p*", "*p, k*", False), ("yo, *k*", "*k*, yo", False), ("*k*", "*k/b*", False)]:
            self.assertIs(are_alike(read_row(one), read_row(other)), told, (one, other))
            self.assertIs(are_alike(read_row(other), read_row(one)), told, (one, other))

    def test_against_the_list(self):
        random = dice(122)
        seen = []
        for one in random_rows(123, 300):
            other = alike_row(random, one) if random.random() < 0.7 else plain_row(random, "a")
            seen.append(are_alike(one, other))
            self.assertEqual(seen[-1], other in alike_rows(one))
        self.assertGreater(seen.count(True), 100)
        self.assertGreater(seen.count(False), 40)


class TestThrift(unittest.TestCase):
    def check(self, one):
        found = thrift(one)
        self.assertIsInstance(found, Thrift)
        rows = alike_rows(one)
        self.assertEqual(found.costs, [cost_of(other) for other in rows])
        self.assertIn(found.row, rows)
        self.assertEqual(cost_of(found.row), min(found.costs))
        self.assertIs(found.shows(one), True)
        for other in rows:
            self.assertTrue(found.shows(other))
        return found

    def test_least_cost_and_all_costs(self):
        for one in random_rows(124, 150):
            self.check(one)

    def test_costs(self):
        for text, costs in [("nothing", [0]), ("k", [1]), ("60 k", [2]), ("*k*", [3]), ("k, *p*", [4]),
                            ("2 k, *2 k*, 2 k", [6, 7, 8, 7, 6]), ("*2 k, 2 p*, 2 k", [8, 8, 8]), ("*k, p*", [4])]:
            self.assertEqual(self.check(read_row(text)).costs, costs)
        self.assertIn(thrift(read_row("2 k, *2 k*, 2 k")).row, [row((), [K] * 2, [K] * 4), row([K] * 4, [K] * 2)])

    def test_long_rows(self):
        self.check(row([K] * 30, [K] * 30, [K] * 30))
        self.check(row([K, P, P] * 20, [K, P, P] * 10, [K, P] + [P, K, P] * 19))
        self.check(row([KFB, TOG] * 30, [K] * 30, [P, YO] * 30))

    def test_spoilt_evidence(self):
        one = read_row("2 k, *2 k*, 2 k")
        right = thrift(one)
        rows = alike_rows(one)
        for place in range(5):
            for more in (1, -1, 10 ** 30):
                costs = list(right.costs)
                costs[place] += more
                self.assertIs(Thrift(right.row, costs).shows(one), False)
            self.assertIs(Thrift(rows[place], right.costs).shows(one), place in (0, 4))
        for costs in [[], right.costs[:-1], right.costs + [6], [6], right.costs[::-1] + [7]]:
            self.assertFalse(Thrift(right.row, costs).shows(one))
        # A row of that cost, or of less, that does not work alike.
        for other in [read_row("k, *p*, k"), row(), read_row("2 k, *2 k*, 3 k"), read_row("*2 p*, 4 p")]:
            self.assertFalse(Thrift(other, right.costs).shows(one))
        self.assertFalse(right.shows(read_row("*2 k*, 5 k")))
        self.assertFalse(right.shows(row()))
        self.assertTrue(Thrift(row(), [0]).shows(row()))
        self.assertFalse(Thrift(row(), []).shows(row()))

    def test_what_is_given_is_copied(self):
        one = read_row("k, *k*")
        costs = list(thrift(one).costs)
        told = Thrift(thrift(one).row, costs)
        costs.clear()
        self.assertTrue(told.shows(one))
        told.costs.append(1)
        self.assertFalse(told.shows(one))


if __name__ == "__main__":
    unittest.main()
