import unittest
from math import lcm

from allstitches.crossing import back_after, sent, where_back
from allstitches.errors import BadRounds, BadRow, BadSize, NotOut
from allstitches.kinds import KINDS
from allstitches.sizes import Sizes
from tests.things import BO, K, KFB, ODD_THINGS, P, TOG, YO, dice, row, told

C2F, C2B, C4F, C4B = [(kind, "a") for kind in ("c2f", "c2b", "c4f", "c4b")]
STEADY = [kind for kind in KINDS if KINDS[kind][0] == KINDS[kind][1] > 0]
SWAP = row((), [C2F])
BRAID = row((), [C2F], [K]), row([K], [C2F])
PLAIN = row((), [K])


def worked(loops, one):
    """Works a row on a list of loops, from its first one on, by the words of [28]."""
    before, group, after = one
    least = sum(KINDS[kind][0] for kind, _ in before + after)
    turns = (len(loops) - least) // sum(KINDS[kind][0] for kind, _ in group) if group else 0
    made = []
    left = list(loops)
    for kind, _ in before + group * turns + after:
        taken, left = left[:KINDS[kind][0]], left[KINDS[kind][0]:]
        made += {1: taken, 2: taken[::-1], 4: taken[2:] + taken[:2]}[len(taken)]
    assert not left
    return made


def round_worked(loops, rows, way):
    """The loops behind a round, from the right to the left: wrong sides are worked from the other end."""
    for number, one in enumerate(rows * 2 if way == "flat" and len(rows) % 2 else rows):
        if way == "flat" and number % 2:
            loops = worked(loops[::-1], one)[::-1]
        else:
            loops = worked(loops, one)
    return loops


def fits(one, loops):
    spare = loops - sum(KINDS[kind][0] for kind, _ in one[0] + one[2])
    if not one[1]:
        return spare == 0
    return spare >= 0 and spare % sum(KINDS[kind][0] for kind, _ in one[1]) == 0


def places_behind(rows, loops, way):
    there = round_worked(list(range(loops)), rows, way)
    return [there.index(loop) for loop in range(loops)]


def rounds_until_back(rows, loops, way):
    begin = list(range(loops))
    now, rounds = round_worked(begin, rows, way), 1
    while now != begin:
        now, rounds = round_worked(now, rows, way), rounds + 1
    return rounds


def random_rows(dice):
    def word(most):
        return [(dice.choice(dice.choice([STEADY, ["k", "c2f", "c4b"]])), "a") for _ in range(dice.randint(0, most))]

    while True:
        rows = []
        for _ in range(dice.choice([1, 1, 2, 2, 3, 4])):
            group = word(3)
            rows.append(row(word(3), group, word(2)) if group else row(word(8)))
        widths = [sum(KINDS[kind][0] for kind, _ in one[1]) for one in rows if one[1]]
        if lcm(1, *widths) <= 24 and all(any(fits(one, loops) for loops in range(1, 60)) for one in rows):
            return tuple(rows)


class TestSent(unittest.TestCase):
    def test_example(self):
        rows = (((), (("c2f", "a"),), ()),)
        self.assertEqual([sent(rows, 4), back_after(rows, 4), where_back(rows, 2).period, where_back(rows, 1).first(2)],
                         [[1, 0, 3, 2], 2, 2, [0]])

    def test_each_kind(self):
        for kind in STEADY:
            many = KINDS[kind][0]
            moved = {1: [0], 2: [1, 0], 4: [2, 3, 0, 1]}[many]
            for way in ("round", "flat"):
                self.assertEqual(sent((row([(kind, "b")]),) * 2, many, way), list(range(many)))
            self.assertEqual(sent((row([(kind, "b")]),), many), moved)
            self.assertEqual(sent((row([K, (kind, "b"), P]),), many + 2),
                             [0] + [place + 1 for place in moved] + [many + 1])

    def test_one_to_three_rows_in_the_round(self):
        self.assertEqual(sent((SWAP,), 6), [1, 0, 3, 2, 5, 4])
        self.assertEqual(sent(BRAID, 5), [2, 0, 4, 1, 3])
        self.assertEqual(sent((*BRAID, PLAIN), 5), [2, 0, 4, 1, 3])
        self.assertEqual(sent((row([C4F], [K]), row([K, K], [K]), row([K, K], [C4B])), 6), [4, 5, 0, 1, 2, 3])

    def test_flat_rows_are_seen_from_the_right_side(self):
        one = row([C2F], [K])
        # Two rows: the second one crosses the last two loops. One row alone is worked twice, in turns from both sides.
        self.assertEqual(sent((one, one), 5, "flat"), [1, 0, 2, 4, 3])
        self.assertEqual(sent((one,), 5, "flat"), [1, 0, 2, 4, 3])
        self.assertEqual(sent((one,), 5), [1, 0, 2, 3, 4])
        self.assertEqual(sent((one, one), 5), [0, 1, 2, 3, 4])
        # Three rows are worked twice, the second time each from the other side.
        self.assertEqual(sent((one, PLAIN, PLAIN), 5, "flat"), [1, 0, 2, 4, 3])
        self.assertEqual(sent((one, one, PLAIN), 5, "flat"), [0, 1, 2, 3, 4])

    def test_rows_without_a_group(self):
        self.assertEqual(sent((row([C4F, K]),), 5), [2, 3, 0, 1, 4])
        self.assertEqual(sent((row(),), 0), [])
        self.assertEqual(back_after((row(),), 0), 1)
        self.assertEqual(sent((SWAP,), 0), [])

    def test_against_working_stitch_by_stitch(self):
        random = dice(281)
        for _ in range(150):
            rows = random_rows(random)
            for loops in range(0, 30):
                if all(fits(one, loops) for one in rows):
                    for way in ("round", "flat"):
                        self.assertEqual(sent(rows, loops, way), places_behind(rows, loops, way), (rows, loops, way))

    def test_the_way_may_be_named(self):
        self.assertEqual(sent(rows=(SWAP,), loops=2, way="flat"), [0, 1])
        self.assertEqual(back_after((SWAP,), loops=2, way="round"), 2)
        self.assertEqual(where_back((SWAP,), rounds=1, way="flat"), Sizes((), 0, 2, (0,)))

    def test_the_list_is_new(self):
        rows = (SWAP,)
        found = sent(rows, 4)
        found.clear()
        self.assertEqual(sent(rows, 4), [1, 0, 3, 2])
        self.assertEqual(rows, (SWAP,))


class TestBackAfter(unittest.TestCase):
    def test_against_working_the_rounds_one_by_one(self):
        random = dice(282)
        for _ in range(120):
            rows = random_rows(random)
            for loops in range(0, 16):
                if all(fits(one, loops) for one in rows):
                    for way in ("round", "flat"):
                        self.assertEqual(back_after(rows, loops, way), rounds_until_back(rows, loops, way))

    def test_braids(self):
        # All loops go round on one way, but for one number of loops in two.
        self.assertEqual([back_after(BRAID, loops) for loops in (1, 3, 5, 7, 99)], [1, 3, 5, 7, 99])
        # Flat, the second row crosses what the first one does, seen from the right side.
        self.assertEqual(back_after(BRAID, 99, "flat"), 1)
        self.assertEqual(back_after((SWAP, SWAP), 8), 1)

    def test_ways_of_several_lengths(self):
        # Two loops change places, and three go round: only after six rounds all are back.
        rows = (row([C2F, C2F, K]), row([C2F, K, C2F]))
        self.assertEqual(sent(rows, 5)[:2], [0, 1])
        rows = (row([C2F, C2F, K, K]), row([K, K, K, C2F, K]), row([K] * 6))
        self.assertEqual(back_after(rows, 6), 6)


class TestWhereBack(unittest.TestCase):
    def check(self, rows, rounds, way, end=150):
        found = where_back(rows, rounds, way)
        self.assertIsInstance(found, Sizes)
        for loops in range(end):
            right = all(fits(one, loops) for one in rows)
            if right:
                begin = now = list(range(loops))
                for _ in range(rounds):
                    now = round_worked(now, rows, way)
                right = now == begin
            self.assertEqual(loops in found, right, (rows, rounds, way, loops))
        return found

    def test_against_working_the_rounds(self):
        random = dice(283)
        many = 0
        for _ in range(60):
            rows = random_rows(random)
            for way in ("round", "flat"):
                each = len(rows) * 2 if way == "flat" and len(rows) % 2 else len(rows)
                rounds = random.choice([count for count in (1, 2, 3, 4, 6, 8, 12, 24) if count * each <= 24])
                many += bool(self.check(rows, rounds, way, 110))
        self.assertGreater(many, 30)

    def test_rounds_of_which_a_multiple_is_back_too(self):
        for rounds in (2, 4, 24):
            self.assertEqual(told(where_back((SWAP,), rounds)), ((), 0, 2, (0,)))
        for rounds in (1, 3, 23):
            self.assertEqual(told(where_back((SWAP,), rounds)), ((0,), 1, 1, ()))

    def test_braids_are_back_at_few_numbers_alone(self):
        self.assertEqual(told(where_back(BRAID, 5)), ((1, 5), 6, 1, ()))
        self.assertEqual(told(where_back(BRAID, 12)), ((1, 3), 4, 1, ()))
        # Behind as many rounds as rows can be worked, no loop far from the edges is back.
        self.assertEqual(where_back(BRAID, 11).first(9), [1, 11])

    def test_great_numbers_of_loops(self):
        found = self.check((row([C2F], [C4F, C2F], [C4B]), SWAP), 2, "round")
        self.assertEqual(told(found), ((), 1, 6, (5,)))
        self.assertEqual([size in found for size in (10 ** 30 + 2, 10 ** 30 + 3)], [(10 ** 30 + 2) % 6 == 0, False])
        self.assertEqual(told(where_back((row([C2F] * 60, [C4F, C2F], [C4B] * 60), SWAP), 1)), ((), 0, 1, ()))
        found = where_back((row([C2F] * 60, [C2F], [C2B] * 60), SWAP), 1)
        self.assertEqual(told(found), ((), 239, 2, (1,)))
        self.assertIn(10 ** 30, found)
        self.assertNotIn(10 ** 30 + 1, found)
        found = where_back((row([K], [C2F]), row([K], [C2F])), 1)
        self.assertIn(10 ** 30 + 1, found)
        self.assertNotIn(10 ** 30, found)

    def test_without_a_group_one_number_alone(self):
        self.assertEqual(told(where_back((row([C2F, C2B]),), 2)), ((4,), 5, 1, ()))
        self.assertFalse(where_back((row([C2F, C2B]),), 1))
        self.assertFalse(where_back((row([C2F]), row([C4F])), 2))
        self.assertEqual(told(where_back((row([C4F] * 60), row((), [C4F])), 1)), ((240,), 241, 1, ()))

    def test_numbers_that_no_row_in_common_fits(self):
        self.assertFalse(where_back((row([K], [C2F]), row((), [C2F])), 1))
        self.assertEqual(told(where_back((row([K], [K, C2F], [K]), row([P, P], [K] * 6)), 2)), ((), 0, 6, (2,)))

    def test_just_24_rows_and_more(self):
        for rows, way, most in [((SWAP,), "round", 24), ((SWAP,), "flat", 12), ((SWAP, SWAP), "flat", 12),
                                ((SWAP,) * 5, "round", 4), ((SWAP,) * 5, "flat", 2), ((SWAP,) * 6, "flat", 4)]:
            self.assertIsInstance(where_back(rows, most, way), Sizes)
            for rounds in (most + 1, 10 ** 30):
                with self.assertRaises(BadRounds):
                    where_back(rows, rounds, way)

    def test_wrong_rounds(self):
        for rounds in [0, -1, -24, -10 ** 30] + ODD_THINGS:
            with self.assertRaises(BadRounds):
                where_back((SWAP,), rounds)


class TestRefused(unittest.TestCase):
    def refused(self, rows):
        for function in (sent, back_after, where_back):
            with self.assertRaises(BadRow):
                function(rows, 1)
            # It is told before anything that is wrong with the number.
            with self.assertRaises(BadRow):
                function(rows, -1)
            with self.assertRaises(BadRow):
                function(rows, True, "flat")

    def test_wrong_rows(self):
        for rows in [[SWAP], (), (PLAIN,) * 7, PLAIN, (PLAIN, None), ((),), (PLAIN, row((), (), [K]))] + ODD_THINGS:
            self.refused(rows)
        self.assertEqual(sent((PLAIN,) * 6, 2), [0, 1])

    def test_rows_that_are_not_steady(self):
        for kind in KINDS:
            if kind not in STEADY:
                for one in [row([K, (kind, "a")]), row((), [K, (kind, "a")]), row((), [K], [(kind, "a")])]:
                    self.refused((PLAIN, one))
        # Not even if what they make is made up for.
        for one in [row([KFB, TOG]), row((), [TOG, YO]), row([BO], [K], [YO])]:
            self.refused((one,))

    def test_the_common_multiple_of_what_groups_take(self):
        for widths in [(24,), (8, 12, 3), (1, 2, 3, 4, 6, 24)]:
            rows = tuple(row((), [K] * many) for many in widths)
            self.assertEqual(sent(rows, 24), list(range(24)))
        for widths in [(25,), (5, 7), (16, 3), (9, 4)]:
            self.refused(tuple(row((), [K] * many) for many in widths))
        # What before and after take does not count.
        self.assertEqual(back_after((row([C4F] * 7, [C2F], [K]),), 29), 2)

    def test_what_is_no_number_of_loops(self):
        for loops in ODD_THINGS + ["1", [], (), 1.0, -5]:
            for function in (sent, back_after):
                with self.assertRaises(BadSize):
                    function((row([K, K]), PLAIN), loops)

    def test_rows_that_do_not_fit(self):
        two, even, odd = row([K, K], [K]), row((), [C2F]), row([K], [C2F])
        for rows, loops, found in [
            ((two,), 1, (0, "few")), ((PLAIN, two), 1, (1, "few")), ((PLAIN, PLAIN, row([C4F])), 3, (2, "few")),
            ((row([K, K]),), 3, (0, "left")), ((PLAIN, row([C2F]), two), 10 ** 5000, (1, "left")),
            ((even,), 3, (0, "parts")), ((PLAIN, even, odd), 4, (2, "parts")), ((even, odd), 5, (0, "parts")),
            ((row(), two), 1, (0, "left")), ((two, odd), 0, (0, "few")), ((odd, two), 0, (0, "few")),
        ]:
            for function in (sent, back_after):
                for way in ("round", "flat"):
                    with self.assertRaises(NotOut) as caught:
                        function(rows, loops, way)
                    self.assertEqual((caught.exception.row, caught.exception.why), found)


if __name__ == "__main__":
    unittest.main()
