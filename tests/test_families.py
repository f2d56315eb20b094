import itertools
import unittest

from allstitches.families import Family, family_of, first_unlike, same_family
from allstitches.looks import shared_lengths
from tests.things import CABLE, K, P, TOG, YO, dice, row

B = ("k", "b")


def form(family):
    return (family.left, family.core, family.right, family.rate, family.more)


def words(names, most):
    return [word for many in range(most + 1) for word in itertools.product(names, repeat=many)]


class TestFamily(unittest.TestCase):
    def test_example(self):
        self.assertEqual(form(Family((K, P), (K, P, K, P), (K,))), ((), (K, P), (K,), 2, 1))

    def test_least_forms_that_are_told(self):
        for told in [((), (K,), ()), ((K,), (K, P), (P,)), ((P, P, K), (K, K, P), (P,)), ((B,), (K,), (B,))]:
            self.assertEqual(form(Family(*told)), told + (1, 0))

    def test_powers(self):
        self.assertEqual(form(Family((), (K,) * 6, ())), ((), (K,), (), 6, 0))
        self.assertEqual(form(Family((), (K, P) * 3, ())), ((), (K, P), (), 3, 0))
        self.assertEqual(form(Family((), (K, P, K), ())), ((), (K, P, K), (), 1, 0))
        self.assertEqual(form(Family((), (K, K, P, K, K, P), ())), ((), (K, K, P), (), 2, 0))
        self.assertEqual(form(Family((), (CABLE,), ())), ((), (CABLE,), (), 1, 0))

    def test_left_goes_into_the_core(self):
        self.assertEqual(form(Family((K,) * 4, (K,), ())), ((), (K,), (), 1, 4))
        self.assertEqual(form(Family((P,), (K, P), ())), ((), (P, K), (P,), 1, 0))
        self.assertEqual(form(Family((B, K, P), (K, P), ())), ((B,), (K, P), (), 1, 1))
        self.assertEqual(form(Family((B, P, K, P), (K, P), ())), ((B,), (P, K), (P,), 1, 1))
        # More than a whole core, and the core is turned.
        self.assertEqual(form(Family((P, K, K, P, K), (K, P, K), (B,))), ((), (P, K, K), (P, K, B), 1, 1))
        self.assertEqual(form(Family((YO, TOG, K), (YO, TOG, K, YO, TOG, K), ())), ((), (YO, TOG, K), (), 2, 1))

    def test_right_goes_into_the_core(self):
        self.assertEqual(form(Family((), (K,), (K,) * 3)), ((), (K,), (), 1, 3))
        self.assertEqual(form(Family((), (K, P), (K, P, K))), ((), (K, P), (K,), 1, 1))
        self.assertEqual(form(Family((K,), (P, K), (P, K, P, P))), ((), (K, P), (P,), 1, 2))

    def test_both_together_make_a_core(self):
        self.assertEqual(form(Family((P,), (K, P), (K,))), ((), (P, K), (), 1, 1))
        self.assertEqual(form(Family((P, K), (P, P, K), (P, B))), ((), (P, K, P), (B,), 1, 1))

    def test_yarns_are_told_apart(self):
        self.assertEqual(form(Family((B,), (K,), (B,))), ((B,), (K,), (B,), 1, 0))
        self.assertEqual(form(Family((), (K, B, K, K), ())), ((), (K, B, K, K), (), 1, 0))

    def test_words_and_lengths(self):
        family = Family((P, P), (K, P), (B,))
        self.assertEqual(family.word(0), (P, P, B))
        self.assertEqual(family.word(2), (P, P, K, P, K, P, B))
        self.assertEqual([family.length(turns) for turns in range(4)], [3, 5, 7, 9])
        self.assertEqual(family.length(10 ** 40), 3 + 2 * 10 ** 40)
        self.assertEqual(Family((), (K,), ()).word(0), ())

    def test_of_length(self):
        family = Family((P, P), (K, P, K, P), (B,))
        self.assertIsNone(family.of_length(0))
        self.assertIsNone(family.of_length(1))
        self.assertIsNone(family.of_length(-1))
        # The left of the least form is (P,), and its core (P, K).
        self.assertEqual(form(family), ((P,), (P, K), (P, B), 2, 0))
        self.assertIsNone(family.of_length(2))
        self.assertEqual(family.of_length(3), (P, P, B))
        self.assertIsNone(family.of_length(4))
        # A core once is no word of any number of turns, but one of this length.
        self.assertEqual(family.of_length(5), (P, P, K, P, B))
        self.assertEqual(Family((), (K,), (K, K)).of_length(0), ())
        self.assertEqual(Family((), (K,), (K, K)).of_length(1), (K,))

    def test_the_words_stay_as_they_were(self):
        for left in words([K, P], 3):
            for group in words([K, P], 4)[1:]:
                for right in words([K, P], 3):
                    family = Family(left, group, right)
                    for turns in range(3):
                        word = left + group * turns + right
                        self.assertEqual(family.word(turns), word)
                        self.assertEqual(family.length(turns), len(word))
                        self.assertEqual(family.of_length(len(word)), word)
                    self.check_form(family)

    def check_form(self, family):
        left, core, right = family.left, family.core, family.right
        self.assertTrue(not left or left[-1] != core[-1])
        self.assertTrue(right[:len(core)] != core)
        for many in range(1, len(core)):
            self.assertFalse(len(core) % many == 0 and core[:many] * (len(core) // many) == core)

    def test_family_of(self):
        self.assertEqual(form(family_of(row([K], [K, K], [P]))), ((), (K,), (P,), 2, 1))
        self.assertEqual(form(family_of(row((), [YO, TOG]))), ((), (YO, TOG), (), 1, 0))


class TestSame(unittest.TestCase):
    def test_same(self):
        one = Family((K,), (P, K), (P,))
        for other in [Family((), (K, P), (K, P)), Family((K, P), (K, P), ()), Family((K,), (P, K), (P,))]:
            self.assertIs(same_family(one, other), True)
            self.assertIsNone(first_unlike(one, other))

    def test_not_the_same(self):
        one = Family((K, P), (K, P), ())
        for other, turns in [(Family((), (K, P), ()), 0), (Family((), (K, P, K, P), (K, P)), 1),
                             (Family((K, P), (P, K), ()), 1), (Family((K, P, K, P), (K, P), ()), 0),
                             (Family((), (P, K), (K, P)), 1)]:
            self.assertIs(same_family(one, other), False)
            self.assertEqual(first_unlike(one, other), turns)
            self.assertEqual(first_unlike(other, one), turns)

    def test_lengths_that_cross(self):
        # They have the same word of 2 turns alone.
        one, other = Family((K,) * 2, (K,), ()), Family((), (K,) * 2, ())
        self.assertEqual(first_unlike(one, other), 0)
        # They have the same word of none.
        self.assertEqual(first_unlike(Family((K,), (K,), ()), Family((), (K, K), (K,))), 1)

    def test_turned_and_moved(self):
        for many in range(1, 9):
            left = Family((K,) * many, (P,) + (K,) * many, ())
            right = Family((), (K,) * many + (P,), (K,) * many)
            self.assertTrue(same_family(left, right))
            self.assertFalse(same_family(left, Family((), (K,) * many + (P,), (K,) * many + (P,))))

    def test_the_word_of_no_turns_alone(self):
        for one, other in [(Family((K,), (K, P), (K, K)), Family((), (K, K), (K, K, K))),
                           (Family((), (K,), (P,)), Family((P,), (K,), ())), (Family((), (K,), ()), Family((), (B,), ()))]:
            self.assertIs(same_family(one, other), False)
            self.assertEqual(first_unlike(one, other), 1)

    def test_against_words(self):
        rolls = dice(30)
        seen = {}

        def word(most):
            return tuple(rolls.choice([K, K, P]) for _ in range(rolls.randint(0, most)))

        for _ in range(6000):
            told = [(word(4), word(3) or (K,), word(4)) for _ in range(2)]
            one, other = [Family(*each) for each in told]
            unlike = [turns for turns in range(20)
                      if told[0][0] + told[0][1] * turns + told[0][2] != told[1][0] + told[1][1] * turns + told[1][2]]
            self.assertEqual(same_family(one, other), not unlike, told)
            self.assertEqual(first_unlike(one, other), unlike[0] if unlike else None, told)
            seen[first_unlike(one, other)] = seen.get(first_unlike(one, other), 0) + 1
        self.assertTrue({None, 0, 1} <= set(seen))


class TestSharedLengths(unittest.TestCase):
    def test_against_words(self):
        rolls = dice(31)
        most = 0
        for _ in range(2000):
            looks = []
            for _ in range(2):
                left, group, right = [tuple(rolls.choice([K, P]) for _ in range(rolls.randint(least, 5)))
                                      for least in (0, 1, 0)]
                family = Family(left, group, right)
                looks.append(("family", family.left, family.core, family.right))
            if rolls.random() < 0.2:
                looks[0] = ("word", Family(*looks[1][1:]).word(rolls.randint(0, 3)) + (K,) * rolls.choice([0, 0, 1]))
            found = shared_lengths(*looks)
            shared = [many for many in range(60) if self.word(looks[0], many) is not None
                      and self.word(looks[0], many) == self.word(looks[1], many)]
            if found is None:
                self.assertEqual(looks[0], looks[1])
            else:
                self.assertEqual(found, shared)
                most = max([most] + found)
        self.assertGreater(most, 5)

    def word(self, look, many):
        if look[0] == "word":
            return look[1] if len(look[1]) == many else None
        return Family(*look[1:]).of_length(many)


if __name__ == "__main__":
    unittest.main()
