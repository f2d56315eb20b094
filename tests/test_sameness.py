import unittest
from math import lcm

from allstitches.counting import out_sizes
from allstitches.errors import TooLong
from allstitches.pieces import measure_of
from allstitches.sameness import Verdict, compare, where_same
from allstitches.sizes import Sizes
from tests.pairs import outcome, random_pair
from tests.things import BO, K, KFB, P, TOG, YO, block, dice, flat, part, ring, row, told

B = ("k", "b")
ALL = Sizes((), 0, 1, (0,))
NONE = Sizes((), 0, 1, ())
PLAIN = row((), [K])
RIBS = row((), [K, P])
STEEL = flat((2, 2), block((2, 1), PLAIN, RIBS))


def verdict(one, two):
    found = compare(one, two)
    return (found.is_same, found.size, found.row, found.kind)


class Pairs(unittest.TestCase):
    def same(self, one, two, sizes=None):
        """All is the same: also the sets of the sizes."""
        for here, there in [(one, two), (two, one)]:
            self.assertEqual(verdict(here, there), (True, None, None, ""))
            self.assertIs(bool(compare(here, there)), True)
            self.assertEqual(where_same(here, there), out_sizes(one))
        if sizes is not None:
            self.assertEqual(where_same(one, two), sizes)

    def unlike(self, one, two, size, number, kind, sizes):
        """They are not the same: the least size, what is there, and the form of the set of the sizes that are."""
        for here, there in [(one, two), (two, one)]:
            self.assertEqual(verdict(here, there), (False, size, number, kind))
            self.assertIs(bool(compare(here, there)), False)
            self.assertEqual(told(where_same(here, there)), sizes)


class TestSame(Pairs):
    def test_example(self):
        one, two = flat((4, 0), block((0, 1), PLAIN)), flat((4, 0), block((0, 2), PLAIN))
        found = compare(one, two)
        self.assertIsInstance(found, Verdict)
        self.assertEqual([found.is_same, found.size, found.row, found.kind, where_same(one, two).early],
                         [False, 1, 1, "rows", (0,)])

    def test_without_rows(self):
        self.same(flat((4, 0)), flat((4, 0)), ALL)
        # What is cast on is no row.
        self.same(flat((4, 0)), ring((5, 1)), ALL)
        self.same(flat((4, 0)), ring((5, 1), block((0, 0), RIBS)), ALL)
        self.same(flat((-1, 0)), flat((-2, 0)), NONE)

    def test_where_none_comes_out(self):
        odd = flat((1, 2), part((), [K, K]))
        self.same(odd, flat((-1, 0), block((0, 1), PLAIN)), NONE)
        self.unlike(odd, flat((1, 0)), 0, None, "out", ((), 0, 1, ()))
        self.same(flat((0, 1), part((), [K, K])), flat((0, 1), part((), [K, K]), block((0, 0), RIBS)),
                  Sizes((), 0, 2, (0,)))

    def test_groups_taken_twice(self):
        self.same(flat((4, 4), part((), [K, P])), flat((4, 4), part((), [K, P] * 2)), ALL)
        self.unlike(flat((4, 2), part((), [K, P])), flat((4, 2), part((), [K, P] * 2)), 1, None, "out",
                    ((), 0, 2, (0,)))

    def test_rows_that_work_alike(self):
        one, two = part([K, P], [K, P], [K]), part([K], [P, K], [P, K])
        self.same(flat((3, 2), one), flat((3, 2), two), ALL)
        # The same, seen from the wrong side.
        self.same(flat((3, 2), part((), [K]), one), flat((3, 2), part((), [K]), two), ALL)

    def test_other_partings(self):
        rows = [row([KFB], [K]), row([P], [K], [TOG, YO, P])]
        piece = flat((6, 2), block((4, 2), *rows))
        for parts in [
            [block((2, 1), *rows * 2)],
            [("row", rows[0]), ("row", rows[1]), block((3, 2), *rows)],
            [block((3, 2), *rows), ("row", rows[0]), ("row", rows[1])],
            [("row", rows[0]), block((3, 2), rows[1], rows[0]), ("row", rows[1])],
            [block((1, 1), *rows), block((3, 1), *rows)],
            [block((1, 0), *rows), block((2, 2), *rows), block((1, 0), *rows), block((0, 0), *rows)],
        ]:
            self.same(piece, flat((6, 2), *parts), ALL)
            self.same(ring((6, 2), *piece.parts), ring((6, 2), *parts), ALL)

    def test_blocks_with_other_numbers_of_rows(self):
        self.same(flat((4, 0), block((0, 6), RIBS)), flat((4, 0), block((0, 2), RIBS, RIBS, RIBS)), ALL)
        self.same(ring((4, 0), block((0, 6), PLAIN, PLAIN)), ring((4, 0), block((0, 4), *[PLAIN] * 3)), ALL)
        self.same(ring((4, 0), block((0, 4), *[PLAIN] * 5)), ring((4, 0), block((0, 5), *[PLAIN] * 4)), ALL)
        wider = [row([YO], [K])]
        self.same(ring((4, 0), block((0, 6), *wider * 2)), ring((4, 0), block((0, 4), *wider * 3)), ALL)
        self.unlike(ring((4, 0), block((0, 6), PLAIN, RIBS)), ring((4, 0), block((0, 4), PLAIN, RIBS, PLAIN)),
                    1, 3, "look", ((0,), 1, 1, ()))

    def test_flat_and_round(self):
        self.same(ring((4, 1), block((0, 1), PLAIN, PLAIN)), flat((4, 1), block((0, 1), PLAIN, row((), [P]))), ALL)
        self.unlike(flat((4, 1), block((0, 1), PLAIN)), ring((4, 1), block((0, 1), PLAIN)), 2, 1, "look",
                    ((0, 1), 2, 1, ()))

    def test_blocks_that_are_not_worked(self):
        self.same(flat((4, 1), block((0, 0), row([K] * 60)), part((), [K])), flat((4, 1), part((), [K])), ALL)
        self.unlike(flat((4, 1), block((-2, 1), PLAIN)), flat((4, 1)), 0, None, "out", ((2,), 3, 1, ()))

    def test_rows_without_a_group(self):
        # A row without a group is the same as one with a group at the one size that it fits.
        self.unlike(flat((3, 1), part([K, P, K, P])), flat((3, 1), part((), [K, P])), 3, None, "out", ((1,), 2, 1, ()))
        self.same(flat((4, 0), block((0, 1), row([K, P, K, P]))), flat((4, 0), block((0, 1), RIBS)), ALL)


class TestUnlike(Pairs):
    def test_one_cell_changed(self):
        self.unlike(STEEL, flat((2, 2), block((2, 1), PLAIN, row((), [K, B]))), 0, 1, "look", ((), 0, 1, ()))
        self.unlike(STEEL, flat((2, 2), block((2, 1), row((), [B]), RIBS)), 0, 0, "look", ((), 0, 1, ()))
        self.unlike(flat((5, 1), part([K], [K], [K])), flat((5, 1), part([K], [K], [P])), 0, 0, "look", ((), 0, 1, ()))
        self.unlike(flat((0, 1), part((), [K])), flat((0, 1), part((), [B])), 1, 0, "look", ((0,), 1, 1, ()))

    def test_one_base_changed(self):
        self.unlike(STEEL, flat((4, 2), *STEEL.parts), 0, 0, "cells", ((), 0, 1, ()))
        self.unlike(STEEL, flat((2, 2), block((3, 1), PLAIN, RIBS)), 0, 4, "rows", ((), 0, 1, ()))
        self.unlike(STEEL, flat((2, 2), block((-1, 1), PLAIN, RIBS)), 0, None, "out", ((), 0, 1, ()))

    def test_one_rise_changed(self):
        self.unlike(STEEL, flat((2, 4), *STEEL.parts), 1, 0, "cells", ((0,), 1, 1, ()))
        self.unlike(STEEL, flat((2, 2), block((2, 2), PLAIN, RIBS)), 1, 6, "rows", ((0,), 1, 1, ()))
        self.unlike(STEEL, flat((2, 2), block((2, -1), PLAIN, RIBS)), 1, 2, "rows", ((0,), 1, 1, ()))

    def test_at_all_but_one_size(self):
        # The groups are not worked at the size 0.
        self.unlike(flat((4, 1), part([K, K], [K], [K, K])), flat((4, 1), part([K, K], [P], [K, K])), 1, 0, "look",
                    ((0,), 1, 1, ()))
        # The blocks are not worked at the size 3.
        self.unlike(flat((4, 0), block((3, -1), RIBS)), flat((4, 0), block((3, -1), PLAIN)), 0, 0, "look",
                    ((3,), 4, 1, ()))
        # Two lines are equal at one size.
        self.unlike(flat((4, 0), block((7, 1), RIBS)), flat((4, 0), block((2, 2), RIBS)), 0, 2, "rows",
                    ((5,), 6, 1, ()))
        self.unlike(flat((3, 1), part((), [K])), flat((0, 2), part((), [K])), 0, 0, "cells", ((3,), 4, 1, ()))

    def test_at_one_size_alone(self):
        # The rows of the block do not fit; it is not worked at the size 4, and elsewhere none comes out.
        bar = block((4, -1), row([K] * 60))
        one, two = flat((1, 1), bar, part((), [K])), flat((1, 1), bar, part([K], [P]))
        self.assertEqual(told(out_sizes(one)), ((4,), 5, 1, ()))
        self.unlike(one, two, 4, 0, "look", ((), 0, 1, ()))

    def test_from_a_size_on(self):
        # In the first round the groups are not worked.
        wider = [block((0, 1), row([YO, YO] + [K] * 4, group)) for group in ([K], [P])]
        self.unlike(flat((4, 0), wider[0]), flat((4, 0), wider[1]), 2, 1, "look", ((0, 1), 2, 1, ()))
        # From the size 13 on too few loops are left for one of them.
        narrow, wide = [flat((20, 0), block((0, 1), row([BO], [K])), part((), [K], [K] * many)) for many in (4, 8)]
        self.assertEqual([out_sizes(piece).many for piece in (narrow, wide)], [17, 13])
        self.unlike(narrow, wide, 13, None, "out", (tuple(range(13)), 13, 1, ()))
        # From the size 5 on the line of a block is below 0.
        self.unlike(flat((20, 0), block((0, 1), RIBS), block((4, -1), RIBS)), flat((20, 0), block((4, 0), RIBS)),
                    5, None, "out", ((0, 1, 2, 3, 4), 5, 1, ()))

    def test_up_to_a_size(self):
        self.unlike(ring((-1, 1), part([K] * 4, [K])), ring((-1, 1), part([K] * 3, [K])), 4, None, "out",
                    ((), 5, 1, (0,)))
        # At the last size that comes out no loops are left for the group.
        one, two = [flat((20, 0), block((0, 1), row([BO], [K])), part((), group, [K] * 4)) for group in ([K], [P])]
        self.unlike(one, two, 0, 0, "look", ((16,), 17, 1, ()))

    def test_on_a_class_of_sizes(self):
        # The row behind the block is worked from the wrong side at each second size.
        one = ring((0, 0), block((0, 1), row()), part([YO] * 4), part((), [K]))
        two = flat((0, 0), block((0, 1), row()), part([YO] * 4), part((), [P]))
        self.unlike(one, two, 1, 2, "look", ((), 0, 2, (0,)))
        one, two = flat((6, 2), part((), [K, P])), flat((6, 2), part((), [K, P] * 3))
        self.unlike(one, two, 1, None, "out", ((), 0, 3, (0,)))

    def test_at_great_sizes(self):
        # All loops are bound off at the least size, so that nothing is left for the group of the last row.
        falling = block((99, 0), row([BO] * 12, [K]))
        least = 38 * 99 * 12 - 99
        one = ring((99, 1), *[falling] * 38, part((), [K]))
        two = ring((99, 1), *[falling] * 37, block((98, 0), *falling[2]), ("row", falling[2][0]), part((), [K]))
        self.same(one, two, Sizes((), least, 1, (0,)))
        two = ring((99, 1), *[falling] * 38, part((), [P]))
        self.unlike(one, two, least + 1, 38 * 99, "look", ((least,), least + 1, 1, ()))

    def test_differing_at_great_sizes_only(self):
        rising = block((99, 0), row([YO] * 12, [K]))
        falling = block((0, 1), row([BO], [K]))
        most = 99 + 30 * 99 * 12
        one, two = [ring((99, 0), *[rising] * 30, falling, part((), [K], [K] * many)) for many in (0, 5)]
        self.unlike(one, two, most - 4, None, "out", (tuple(range(most - 4)), most - 4, 1, ()))

    def test_sizes_beyond_those_of_sets(self):
        thin = [part((), [TOG])] * 5 + [block((99, 0), row([BO] * 12, [K]))] * 33
        one, two = [ring((0, 1), *thin, part((), group)) for group in ([K], [P])]
        self.assertEqual(verdict(one, two), (False, 33 * 99 * 12 * 32 + 32, 5 + 33 * 99, "look"))
        self.assertTrue(compare(one, one))
        # No size comes out in both.
        self.assertEqual(where_same(one, ring((-1, 0))), NONE)


class TestKinds(Pairs):
    def test_kinds(self):
        one = ring((4, 2), part((), [K]), part((), [K, P]))
        for other, size, number, kind in [
            (ring((4, 2), part((), [K]), part((), [K, P]), part((), [K])), 0, 2, "rows"),
            (ring((4, 2), part((), [K])), 0, 1, "rows"),
            (ring((4, 2)), 0, 0, "rows"),
            (ring((4, 2), part((), [K]), part((), [P, K])), 0, 1, "look"),
            (ring((4, 2), part((), [K]), part([YO], [K, P])), 0, 1, "cells"),
            (ring((4, 2), part((), [KFB]), part((), [K, P])), 0, 0, "look"),
            (ring((4, 3), part((), [K]), part((), [K, P])), 1, None, "out"),
            (ring((4, 2), part((), [K], [K] * 6), part((), [K, P])), 0, None, "out"),
            (ring((6, 2), part((), [K]), part((), [K, P])), 0, 0, "cells"),
        ]:
            self.assertEqual(verdict(one, other), (False, size, number, kind))
            self.assertEqual(verdict(other, one), (False, size, number, kind))

    def test_the_first_row_of_many(self):
        rows = [row([YO, YO], [K]), row([P] * 4, [K])]
        other = [row([YO, YO], [K]), row([P] * 4, [P])]
        # In the first round the groups of the second row are not worked.
        self.unlike(ring((2, 0), block((2, 1), *rows)), ring((2, 0), block((2, 1), *other)), 0, 3, "look",
                    ((), 0, 1, ()))
        self.unlike(ring((2, 0), block((0, 1), *rows)), ring((2, 0), block((0, 1), *other)), 2, 3, "look",
                    ((0, 1), 2, 1, ()))

    def test_rounds_that_step_in_other_ways(self):
        one = ring((5, 1), block((3, 1), row((), [K])))
        two = ring((5, 1), part((), [K]), block((2, 1), row([P], [K])))
        self.unlike(one, two, 0, 1, "look", ((), 0, 1, ()))
        two = ring((5, 1), block((3, 1), row([BO], [K], [YO, YO])))
        self.unlike(one, two, 0, 0, "cells", ((), 0, 1, ()))
        # The words of the first round have the same number of cells, but not the loops behind.
        one, two = [ring((9, 1), block((2, 1), row([last], [K]))) for last in (BO, K)]
        self.unlike(one, two, 0, 0, "look", ((), 0, 1, ()))
        one, two = [ring((9, 1), block((2, 1), row([BO, last], [K]), row([first], [K])))
                    for last, first in ((K, K), (K, BO))]
        self.unlike(one, two, 0, 1, "look", ((), 0, 1, ()))

    def test_words_that_are_the_same_at_one_length(self):
        # Both give k p k p k on 5 loops, and other words on all others.
        one, two = row([K], [P, K]), row([K, P, K, P, K], [K, K])
        self.same(flat((5, 0), block((0, 1), one)), flat((5, 0), block((0, 1), two)), ALL)
        self.unlike(flat((5, 2), ("row", one)), flat((5, 2), ("row", two)), 1, 0, "look", ((0,), 1, 1, ()))
        # From round to round there are 2 loops more.
        one, two = row([YO, YO, K], [P, K]), row([YO, YO, K, P, K, P, K], [K, K])
        self.unlike(flat((5, 0), block((0, 1), one)), flat((5, 0), block((0, 1), two)), 2, 1, "look",
                    ((0, 1), 2, 1, ()))


class TestLimits(Pairs):
    def test_just_840(self):
        one = ring((6, 6), block((0, 7), *[row((), [K] * 3)] * 20))
        two = ring((6, 6), *[block((0, 5), *[PLAIN] * 14)] * 2)
        self.assertEqual([measure_of(piece.parts) for piece in (one, two)], [120, 28])
        self.same(one, two, ALL)
        three = ring((6, 6), block((0, 5), *[PLAIN] * 14), block((0, 5), *[PLAIN] * 13, row((), [P])))
        self.unlike(one, three, 1, 83, "look", ((0,), 1, 1, ()))

    def test_above_840(self):
        one = ring((6, 6), block((0, 7), *[row((), [K] * 3)] * 20))
        for parts in [[part((), [K] * 11)], [part((), [K] * 16), block((0, 1), *[PLAIN] * 7)]]:
            two = ring((6, 6), *parts)
            self.assertGreater(lcm(120, measure_of(two.parts)), 840)
            for work in (where_same, compare):
                for pair in ((one, two), (two, one)):
                    with self.assertRaises(TooLong):
                        work(*pair)
                # Each by itself is not too long.
                work(one, one)
                work(two, two)


class TestAgainstKnitting(Pairs):
    def test_small_sizes(self):
        rolls = dice(40)
        kinds = {}
        for _ in range(700):
            one, two = random_pair(rolls)
            found = [outcome(one, two, size) for size in range(24)]
            text = (one.way, one.cast, one.parts, two.way, two.cast, two.parts)
            same = where_same(one, two)
            self.assertEqual([size in same for size in range(24)], [kind == "same" for kind, _ in found], text)
            bad = [(size,) + each for size, each in enumerate(found) if each[0] not in ("same", "neither")]
            verdict_ = compare(one, two)
            if bad:
                self.assertEqual((verdict_.size, verdict_.kind, verdict_.row), bad[0], text)
            elif not verdict_:
                self.assertGreaterEqual(verdict_.size, 24)
                self.assertEqual((verdict_.kind, verdict_.row), outcome(one, two, verdict_.size))
            name = verdict_.kind + (" late" if bad and bad[0][0] > 1 else "") + (" ever" if same.many is None else "")
            kinds[name] = kinds.get(name, 0) + 1
        for name in ["", " ever", "out", "out ever", "out late", "look", "look late", "cells", "rows"]:
            self.assertGreater(kinds.get(name, 0), 1, kinds)

    def test_greater_sizes(self):
        rolls = dice(41)
        seen = 0
        for _ in range(60):
            one, two = random_pair(rolls)
            same = where_same(one, two)
            if same.many is None:
                for size in [rolls.randint(40, 90) for _ in range(3)]:
                    seen += 1
                    self.assertEqual(size in same, outcome(one, two, size)[0] == "same", (one.parts, two.parts))
        self.assertGreater(seen, 60)


if __name__ == "__main__":
    unittest.main()
