import copy
import unittest
from itertools import product

from allstitches.costs import Cheapest, cheapest, cost, spelled, writing_text
from allstitches.errors import BadWord
from allstitches.reading import read_row
from tests.things import K, ODD_THINGS, P, TOG, dice

B = ("k", "b")


def times(number, *items):
    return ("times", number, tuple(items))


def least_costs(cells, most):
    """The least costs of all words of so many cells at most, found by trying all writings."""
    words = [word for many in range(1, most + 1) for word in product(cells, repeat=many)]
    best = {}
    # All words of a writing are at most as long as its own: shorter ones come first.
    for word in words:
        found = [1] if len(word) == 1 else []
        found += [best[word[:cut]] + best[word[cut:]] for cut in range(1, len(word))]
        for many in range(1, len(word)):
            if len(word) % many == 0 and word == word[:many] * (len(word) // many):
                found.append(best[word[:many]] + (1 if many == 1 else 2))
        best[word] = min(found)
    return best


def random_word(dice, most):
    """A word with powers in it, and powers of powers."""
    word = tuple((dice.choice("kp"), "a") for _ in range(dice.randint(1, 3)))
    for _ in range(dice.randint(0, 5)):
        way = dice.randint(0, 3)
        if way == 0:
            word = word * dice.randint(2, 3)
        elif way == 1:
            word = word + tuple((dice.choice("kp"), "a") for _ in range(dice.randint(1, 3)))
        elif way == 2:
            word = (dice.choice([K, P]),) * dice.randint(1, 4) + word
        else:
            word = word + word[:dice.randint(0, len(word))]
    return word[:most]


class TestCheapest(unittest.TestCase):
    def check(self, word, least=None):
        found = cheapest(word)
        self.assertIsInstance(found, Cheapest)
        self.assertEqual(spelled(found.writing), word)
        self.assertIs(found.shows(word), True)
        self.assertIsInstance(found.writing, tuple)
        if least is not None:
            self.assertEqual(cost(found.writing), least, word)
        self.check_rules(found, word)
        return found

    def check_rules(self, found, word):
        """The rules for the table, for each pair of places and each cut."""
        table = found.table
        pairs = [(low, high) for low in range(len(word)) for high in range(low + 1, len(word) + 1)]
        self.assertEqual(sorted(table), pairs)
        for low, high in pairs:
            if high == low + 1:
                self.assertLessEqual(table[(low, high)], 1)
            for cut in range(low + 1, high):
                self.assertLessEqual(table[(low, high)], table[(low, cut)] + table[(cut, high)])
                times, rest = divmod(high - low, cut - low)
                if not rest and word[low:high] == word[low:cut] * times:
                    self.assertLessEqual(table[(low, high)], table[(low, cut)] + (1 if cut == low + 1 else 2))
        if word:
            self.assertEqual(table[(0, len(word))], cost(found.writing))

    def test_example(self):
        told = cheapest(read_row("2 (k, 3 p), 2 (k, 3 p), k2tog")[0])
        self.assertEqual([cost(told.writing), writing_text(told.writing), told.table[(0, 17)]],
                         [6, "4 (k, 3 p), k2tog", 6])

    def test_the_empty_word_and_one_cell(self):
        found = self.check((), 0)
        self.assertEqual((found.writing, found.table), ((), {}))
        found = self.check((B,), 1)
        self.assertEqual((found.writing, found.table), ((B,), {(0, 1): 1}))

    def test_powers_and_repeats_within_repeats(self):
        for text, least in [
            ("2 k", 2), ("3 k", 2), ("60 k", 2), ("k, p", 2), ("2 (k, p)", 4), ("3 (k, p)", 4), ("30 (k, p)", 4),
            ("2 (k, 3 p)", 5), ("3 (2 (k, p), yo)", 7), ("4 (3 (2 k, p), yo)", 8), ("2 (k, p, yo)", 5), ("2 k, 2 p", 4),
            ("3 k, 3 p", 4), ("2 (3 k, 3 p)", 6), ("4 (5 k, p), k2tog, 4 (5 k, p)", 11), ("2 (2 (k, p, yo), k2tog)", 8),
            ("k, 2 (k/b, k)", 5), ("20 (k, p, yo)", 5), ("2 k, 29 (p, k)", 6), ("3 (k, p), k", 5),
        ]:
            self.check(read_row(text)[0], least)

    def test_against_trying_all_writings_of_short_words(self):
        for word, least in least_costs([K, P], 9).items():
            self.check(word, least)
        for word, least in least_costs([K, P, B], 5).items():
            self.check(word, least)

    def test_long_words(self):
        random = dice(111)
        for _ in range(25):
            self.check(random_word(random, 60))
        self.check(tuple(random.choice([K, P, TOG]) for _ in range(60)))

    def test_words_of_60_cells_and_of_61(self):
        self.check((K,) * 60, 2)
        told = cheapest((K,))
        for word in [(K,) * 61, (K, P) * 31, [K], K, (K, None), "k"] + ODD_THINGS:
            with self.assertRaises(BadWord):
                cheapest(word)
            with self.assertRaises(BadWord):
                told.shows(word)


class TestShows(unittest.TestCase):
    def test_what_is_given_is_copied(self):
        word = (K, P, K, P)
        table = dict(cheapest(word).table)
        told = Cheapest(cheapest(word).writing, table)
        table[(0, 1)] = 5
        del table[(0, 2)]
        self.assertTrue(told.shows(word))
        self.assertEqual(told.table, cheapest(word).table)
        told.table.clear()
        self.assertFalse(told.shows(word))
        self.assertTrue(cheapest(word).shows(word))

    def test_spoilt_tables(self):
        random = dice(112)
        for _ in range(40):
            word = random_word(random, 14)
            right = cheapest(word)
            for pair in right.table:
                for table in ({**right.table, pair: right.table[pair] + 1}, {**right.table, pair: 10 ** 30},
                              {other: right.table[other] for other in right.table if other != pair}):
                    self.assertIs(Cheapest(right.writing, table).shows(word), False)
            for more in [(0, 0), (0, len(word) + 1), (-1, 1), (1, 0)]:
                self.assertFalse(Cheapest(right.writing, {**right.table, more: 0}).shows(word))
            whole = (0, len(word))
            less = {**right.table, whole: right.table[whole] - 1}
            self.assertFalse(Cheapest(right.writing, less).shows(word))

    def test_other_tables_may_do(self):
        word = read_row("2 (k, p), 2 (yo, k), p")[0]
        right = cheapest(word)
        # No number but the last one is wanted to be a least cost: it may be less, if none then is too great.
        table = {pair: right.table[pair] - (pair == (7, 9)) for pair in right.table}
        self.assertEqual(right.table[(7, 9)], 2)
        self.assertEqual(Cheapest(right.writing, table).shows(word), self.obeys(table, word))
        random = dice(113)
        seen = set()
        for _ in range(400):
            word = random_word(random, 6)
            right = cheapest(word)
            table = {pair: right.table[pair] - (random.random() < 0.2) * random.choice([1, 1, 2, 50])
                     for pair in right.table}
            told = Cheapest(right.writing, table).shows(word)
            self.assertEqual(told, self.obeys(table, word) and table[(0, len(word))] == cost(right.writing))
            seen.add(told and table != right.table)
        self.assertEqual(seen, {True, False})

    def obeys(self, table, word):
        check = TestCheapest()
        try:
            check.check_rules(Cheapest(cheapest(word).writing, table), word)
        except AssertionError:
            return False
        return True

    def test_spoilt_writings(self):
        word = read_row("k, 3 (k, 2 p), yo, 2 k2tog")[0]
        right = cheapest(word)
        self.assertEqual(right.writing[1][:2], ("times", 3))
        inner = right.writing[1][2]
        spoilt = [(), right.writing[1:], right.writing[:-1], right.writing + (K,), (P,) + right.writing[1:],
                  ((K[0], "b"),) + right.writing[1:], right.writing[:1] + right.writing[2:]]
        for number in (4, 2, 1, 0, -1, -3, 10 ** 30):
            spoilt.append(right.writing[:1] + (times(number, *inner),) + right.writing[2:])
            spoilt.append(right.writing[:1] + (times(3, inner[0], times(number, P)),) + right.writing[2:])
            spoilt.append(right.writing + (times(number, *inner), times(-number, *inner)))
        spoilt.append(right.writing[:1] + (times(3, *inner, P),) + right.writing[2:])
        spoilt.append(right.writing[:1] + (times(3, inner[1], inner[0]),) + right.writing[2:])
        told = [Cheapest(writing, right.table).shows(word) for writing in spoilt]
        same = [writing == right.writing or spelled_small(writing) == word and cost(writing) == cost(right.writing)
                for writing in spoilt]
        self.assertEqual(told, same)
        self.assertEqual(sum(told), 1)

    def test_dearer_writings_of_the_word(self):
        for word, writing in [((K,) * 3, (K, K, K)), ((K, P) * 3, (K, P, times(2, K, P))), ((K, P) * 4, (K, P) * 4),
                              ((K,) * 4, (times(2, times(2, K)),)), ((K, P), (times(1, K), P))]:
            right = cheapest(word)
            told = Cheapest(writing, right.table)
            self.assertEqual(told.shows(word), False)
            dearer = {**right.table, (0, len(word)): cost(writing)}
            self.assertFalse(Cheapest(writing, dearer).shows(word))

    def test_writings_that_cost_as_much(self):
        for word, writing in [((K, K), (K, K)), ((K, K), (times(2, K),)), ((K, P, P), (K, P, P)),
                              ((K, P) * 2, (K, P, K, P)), ((K, P) * 2, (times(2, K, P),))]:
            self.assertTrue(Cheapest(writing, cheapest(word).table).shows(word))

    def test_of_another_word(self):
        for word, other in [((K, P), (P, K)), ((K, P), (K, P, P)), ((), (K,)), ((K,), ()), ((K, K), (K, B))]:
            self.assertFalse(cheapest(word).shows(other))
        self.assertTrue(Cheapest((), {}).shows(()))
        self.assertFalse(Cheapest((), {(0, 0): 0}).shows(()))
        self.assertFalse(Cheapest((times(2),), {}).shows(()))

    def test_a_copy_shows_too(self):
        word = (K, P) * 5
        self.assertTrue(copy.deepcopy(cheapest(word)).shows(word))


def spelled_small(writing):
    """The word of a writing, None if it has numbers for which there is none, or great ones."""
    word = ()
    for item in writing:
        if item[0] != "times":
            word += (item,)
        elif not 2 <= item[1] < 100 or spelled_small(item[2]) is None:
            return None
        else:
            word += spelled_small(item[2]) * item[1]
    return word


class TestWritings(unittest.TestCase):
    def test_cost_and_word(self):
        for writing, told, word in [
            ((), 0, ()), ((K,), 1, (K,)), ((K, P), 2, (K, P)), ((K, K), 2, (K, K)), ((times(2, K),), 2, (K, K)),
            ((times(3, K, P),), 4, (K, P) * 3), ((times(2, times(3, K)),), 4, (K,) * 6),
            ((P, times(2, K, times(3, P), B), TOG), 8, (P,) + (K, P, P, P, B) * 2 + (TOG,)),
            ((times(2, times(2, times(2, K, P))),), 8, (K, P) * 8), ((times(40, K), times(40, P)), 4, (K,) * 40 + (P,) * 40),
        ]:
            self.assertEqual(cost(writing), told)
            self.assertEqual(spelled(writing), word)

    def test_texts(self):
        for writing, text in [
            ((), ""), ((K,), "k"), ((K, B), "k, k/b"), ((times(2, K),), "2 k"), ((times(12, B),), "12 k/b"),
            ((times(3, K, P),), "3 (k, p)"), ((times(2, times(3, K)),), "2 (3 k)"), ((K, times(3, P)), "k, 3 p"),
            ((P, times(2, K, times(3, P), B), TOG), "p, 2 (k, 3 p, k/b), k2tog"),
            ((times(2, times(2, K, P)), times(4, K)), "2 (2 (k, p)), 4 k"), ((times(2, K), K, times(3, K)), "2 k, k, 3 k"),
        ]:
            self.assertEqual(writing_text(writing), text)

    def test_the_text_is_that_of_the_word(self):
        random = dice(114)
        for _ in range(100):
            word = random_word(random, 60)
            writing = cheapest(word).writing
            self.assertEqual(read_row(writing_text(writing)), (word, (), ()))


if __name__ == "__main__":
    unittest.main()
