import unittest
from math import lcm

from allstitches.agreeing import Sheet, Split, agreeing
from allstitches.counting import out_sizes
from allstitches.errors import TooLong
from allstitches.families import Family
from allstitches.pieces import measure_of
from allstitches.sameness import compare
from tests.pairs import random_pair
from tests.things import BO, K, P, TOG, YO, block, cloth_at, dice, flat, part, ring, row

PLAIN = row((), [K])
RIBS = row([K], [P, K], [])
STEEL = ("family", (), (K,), ())
PURL = ("family", (), (P,), ())


def word_of(look, many):
    """The word of a look with so many cells; None if there is none."""
    if look[0] == "word":
        return look[1] if len(look[1]) == many else None
    left, core, right = look[1:]
    times, rest = divmod(many - len(left) - len(right), len(core))
    return None if rest or times < 0 else left + core * times + right


def told_at(told, number):
    """The cloth that is told at k, by the words of [29]; with None for what is no word."""
    if told is None:
        return None
    looks = []
    for segment in told:
        if segment[0] == "row":
            looks.append(word_of(segment[1], segment[2] + segment[3] * number))
            continue
        for turn in range(segment[2][0] + segment[2][1] * number):
            looks += [word_of(look, base + rise * number + step * turn) for look, base, rise, step in segment[1]]
    return looks


def holds(sheet, one, two, most):
    """Whether a sheet holds, as far as the numbers below most tell."""
    for rest, (least, told) in enumerate(sheet.rows):
        for number in range(most):
            size = rest + sheet.period * number
            looks = cloth_at(one, size)
            if looks != cloth_at(two, size) or number >= least and told_at(told, number) != looks:
                return False
    return True


class TestAgreeing(unittest.TestCase):
    def test_example(self):
        one, two = flat((4, 0), block((0, 1), PLAIN)), flat((4, 0), block((0, 2), PLAIN))
        found = agreeing(one, two)
        self.assertIsInstance(found, Split)
        self.assertEqual(found.size, 1)

    def test_a_row(self):
        found = agreeing(ring((4, 2), part([K], [P, K], [P])), ring((4, 2), part([K], [P, K], [P])))
        self.assertIsInstance(found, Sheet)
        self.assertEqual(found.period, 2)
        look = ("family", (), (K, P), ())
        self.assertEqual(found.rows, [(0, (("row", look, 4, 4),)), (0, (("row", look, 6, 4),))])

    def test_a_word(self):
        found = agreeing(flat((3, 0), part([K, TOG]), part([K, P])), flat((3, 0), part([K, TOG]), part([K], [P])))
        told = (("row", ("word", (K, TOG)), 2, 0), ("row", ("word", (K, P)), 2, 0))
        self.assertEqual(found.rows, [(0, told), (0, told)])

    def test_a_block(self):
        found = agreeing(flat((4, 1), block((1, 1), PLAIN)), flat((4, 1), part((), [K]), block((0, 1), row((), [K]))))
        self.assertEqual(found.period, 4)
        self.assertEqual([told for _, told in found.rows], [
            (("rows", ((STEEL, 4, 4, 0), (PURL, 4, 4, 0)), (0, 2)), ("row", STEEL, 4, 4)),
            (("rows", ((STEEL, 5, 4, 0), (PURL, 5, 4, 0)), (1, 2)),),
            (("rows", ((STEEL, 6, 4, 0), (PURL, 6, 4, 0)), (1, 2)), ("row", STEEL, 6, 4)),
            (("rows", ((STEEL, 7, 4, 0), (PURL, 7, 4, 0)), (2, 2)),)])

    def test_rounds_that_change_the_loops(self):
        wider = row([YO], [K])
        found = agreeing(ring((2, 3), block((3, 2), wider)), ring((2, 3), block((3, 2), wider)))
        look = ("family", (YO,), (K,), ())
        self.assertEqual(found.period, 4)
        self.assertEqual(found.rows[1][1], (("rows", ((look, 6, 12, 1),), (5, 8)),))

    def test_constant_blocks_are_told_one_by_one(self):
        found = agreeing(ring((2, 1), block((3, 0), row([YO], [K]))), ring((2, 1), *[part([YO], [K])] * 3))
        look = ("family", (YO,), (K,), ())
        self.assertEqual(found.period, 4)
        self.assertEqual(found.rows[2], (0, tuple(("row", look, 5 + turn, 4) for turn in range(3))))

    def test_no_rows_and_no_sizes(self):
        self.assertEqual(agreeing(ring((2, 1)), flat((3, 0))).rows, [(0, ()), (0, ())])
        self.assertEqual(agreeing(ring((-2, 0)), flat((-3, 0))).rows, [(0, None), (0, None)])
        found = agreeing(ring((1, 1), part((), [K, K])), ring((1, 1), part((), [K, K])))
        self.assertEqual([told is None for _, told in found.rows], [True, False])
        found = agreeing(ring((5, -1), part((), [K])), ring((5, -1), part((), [K])))
        self.assertEqual(found.rows, [(3, None), (3, None)])

    def test_the_first_sizes_are_left_to_least(self):
        # From the size 42 on all comes out.
        late = ring((-42, 1), part((), [K]))
        self.assertEqual(agreeing(late, late).rows, [(21, (("row", STEEL, -42, 2),)), (21, (("row", STEEL, -41, 2),))])

    def test_measures(self):
        one = ring((6, 6), block((0, 7), *[row((), [K] * 3)] * 20))
        two = ring((6, 6), *[block((0, 5), *[PLAIN] * 14)] * 2)
        found = agreeing(one, two)
        self.assertEqual((found.period, len(found.rows)), (840, 840))
        self.assertTrue(found.shows(one, two))
        self.assertFalse(found.shows(one, ring((6, 6), *two.parts, part((), [K]))))
        with self.assertRaises(TooLong):
            agreeing(one, ring((6, 6), part((), [K] * 11)))

    def test_new_lists(self):
        one = ring((2, 1), part((), [K]))
        agreeing(one, one).rows.clear()
        self.assertTrue(agreeing(one, one).shows(one, one))

    def test_against_knitting(self):
        rolls = dice(70)
        kinds = {}
        for _ in range(250):
            one, two = random_pair(rolls, 48)
            found, verdict = agreeing(one, two), compare(one, two)
            kinds[type(found)] = kinds.get(type(found), 0) + 1
            self.assertTrue(found.shows(one, two))
            self.assertTrue(found.shows(two, one))
            if isinstance(found, Split):
                self.assertFalse(verdict.is_same)
                self.assertEqual(found.size, verdict.size)
                self.assertFalse(Split(found.size + 1).shows(one, two))
                self.assertFalse(Split(found.size - 1).shows(one, two))
                continue
            self.assertTrue(verdict.is_same)
            self.check_form(found, one, two)
            self.assertTrue(holds(found, one, two, 4))
        self.assertGreater(min(kinds.values()), 50)

    def check_form(self, sheet, one, two):
        self.assertEqual(sheet.period % lcm(measure_of(one.parts), measure_of(two.parts)), 0)
        self.assertEqual(len(sheet.rows), sheet.period)
        for least, told in sheet.rows:
            self.assertGreaterEqual(least, 0)
            for segment in told or ():
                rows = [segment[1:] + (0,)] if segment[0] == "row" else segment[1]
                if segment[0] == "rows":
                    self.assertGreaterEqual(segment[2][1], 1)
                    self.assertGreaterEqual(segment[2][0] + segment[2][1] * least, 1)
                for look, base, rise, step in rows:
                    self.check_look(look, base, rise, step, least, segment)

    def check_look(self, look, base, rise, step, least, segment):
        if look[0] == "word":
            self.assertEqual((base, rise, step), (len(look[1]), 0, 0))
            return
        family = Family(*look[1:])
        self.assertEqual(("family", family.left, family.core, family.right), look)
        self.assertEqual((family.rate, family.more), (1, 0))
        for number in range(least, least + 4):
            turns = segment[2][0] + segment[2][1] * number if segment[0] == "rows" else 1
            for turn in range(turns):
                self.assertIsNotNone(word_of(look, base + rise * number + step * turn))


class TestSplit(unittest.TestCase):
    def test_shows(self):
        one, two = flat((4, 0), block((0, 1), PLAIN)), flat((4, 0), block((0, 2), PLAIN))
        self.assertIs(Split(1).shows(one, two), True)
        for size in (0, 2, -1, 10 ** 30):
            self.assertIs(Split(size).shows(one, two), False)
        for size in (0, 1, 2, -1):
            self.assertIs(Split(size).shows(one, one), False)

    def test_great_sizes(self):
        rising = [block((99, 0), row([YO] * 12, [K]))] * 30
        one, two = [ring((99, 0), *rising, block((0, 1), row([BO], [K])), part((), [K], [K] * many)) for many in (0, 5)]
        found = agreeing(one, two)
        self.assertEqual(found.size, 99 + 30 * 99 * 12 - 4)
        self.assertTrue(found.shows(one, two))
        self.assertFalse(Split(found.size + 1).shows(one, two))


class TestSheet(unittest.TestCase):
    def setUp(self):
        wider = row([YO], [K])
        self.one = flat((5, 2), block((1, 2), RIBS, PLAIN), block((2, 1), wider))
        self.two = flat((5, 2), block((1, 2), RIBS, PLAIN), block((1, 1), wider), part([YO], [K]))
        self.sheet = agreeing(self.one, self.two)

    def shows(self, period, rows):
        return Sheet(period, rows).shows(self.one, self.two)

    def test_shows(self):
        self.assertIsInstance(self.sheet, Sheet)
        self.assertIs(self.shows(self.sheet.period, self.sheet.rows), True)
        self.assertEqual(self.sheet.period, 4)
        self.assertTrue(all(told for _, told in self.sheet.rows))

    def test_copies(self):
        rows = list(self.sheet.rows)
        sheet = Sheet(4, rows)
        rows.clear()
        self.assertTrue(sheet.shows(self.one, self.two))
        self.assertIsNot(sheet.rows, rows)

    def test_other_pieces(self):
        self.assertFalse(self.sheet.shows(self.one, ring((5, 2), *self.one.parts)))
        self.assertFalse(self.sheet.shows(ring((5, 2), *self.one.parts), ring((5, 2), *self.one.parts)))
        self.assertFalse(self.sheet.shows(flat((5, 2)), flat((5, 2))))
        # The same pieces, with other measures.
        three = flat((5, 2), *self.one.parts, block((0, 0), *[PLAIN] * 3))
        self.assertFalse(self.sheet.shows(self.one, three))
        self.assertTrue(agreeing(self.one, three).shows(self.one, self.two))

    def test_periods(self):
        rows = self.sheet.rows
        for period in (0, 1, 2, 3, 5, 8, -4, 10 ** 30):
            self.assertIs(self.shows(period, rows), False)
        self.assertIs(self.shows(0, []), False)
        self.assertIs(self.shows(2, rows[:2]), False)
        self.assertIs(self.shows(6, rows + rows[:2]), False)
        self.assertIs(self.shows(8, rows + rows), False)

    def test_twice_the_period(self):
        rows = []
        for start in (0, 1):
            for least, told in self.sheet.rows:
                segments = []
                for segment in told:
                    if segment[0] == "row":
                        segments.append(("row", segment[1], segment[2] + start * segment[3], 2 * segment[3]))
                    else:
                        looks = [(look, base + rise * start, 2 * rise, step) for look, base, rise, step in segment[1]]
                        segments.append(("rows", tuple(looks),
                                         (segment[2][0] + start * segment[2][1], 2 * segment[2][1])))
                rows.append((least, tuple(segments)))
        self.assertTrue(self.shows(8, rows))

    def test_numbers_of_rows(self):
        rows = self.sheet.rows
        for other in ([], rows[:3], rows + rows[:1], rows[1:], rows[1:] + rows[:1]):
            self.assertIs(self.shows(4, other), False)

    def test_leasts(self):
        for number, (least, told) in enumerate(self.sheet.rows):
            for more in (1, 2, 50, 10 ** 40):
                self.assertIs(self.shows(4, self.with_row(number, (least + more, told))), True)
        late = ring((-42, 1), part((), [K]))
        told = [(("row", STEEL, -42 + rest, 2),) for rest in (0, 1)]
        for leasts, right in [((21, 21), True), ((22, 10 ** 40), True), ((20, 21), False), ((21, 20), False),
                              ((0, 21), False), ((21, -1), False)]:
            self.assertIs(Sheet(2, list(zip(leasts, told))).shows(late, late), right)
        # From a number below 0 on, it would tell of what are no sizes.
        one = ring((9, 1), part((), [K]))
        told = [(("row", STEEL, 9 + rest, 2),) for rest in (0, 1)]
        self.assertIs(Sheet(2, [(0, told[0]), (0, told[1])]).shows(one, one), True)
        self.assertIs(Sheet(2, [(-1, told[0]), (0, told[1])]).shows(one, one), False)
        self.assertIs(Sheet(2, [(0, None), (0, None)]).shows(ring((-1, 0)), ring((-1, 0))), True)
        self.assertIs(Sheet(2, [(0, None), (-1, None)]).shows(ring((-1, 0)), ring((-1, 0))), False)

    def with_row(self, number, told):
        return self.sheet.rows[:number] + [told] + self.sheet.rows[number + 1:]

    def with_segment(self, number, place, segments):
        least, told = self.sheet.rows[number]
        return self.with_row(number, (least, told[:place] + tuple(segments) + told[place + 1:]))

    def test_segments(self):
        for number, (least, told) in enumerate(self.sheet.rows):
            self.assertIs(self.shows(4, self.with_row(number, (least, None))), False)
            self.assertIs(self.shows(4, self.with_row(number, (least, ()))), False)
            for place, segment in enumerate(told):
                self.assertIs(self.shows(4, self.with_segment(number, place, [])), False)
                self.assertIs(self.shows(4, self.with_segment(number, place, [segment, segment])), False)
                self.assertIs(self.shows(4, self.with_segment(number, place, [segment, ("row", STEEL, 5, 0)])), False)
            if len(told) > 1:
                self.assertIs(self.shows(4, self.with_row(number, (least, told[1:] + told[:1]))), False)

    def test_numbers_and_looks(self):
        spoilt = 0
        for number, (_, told) in enumerate(self.sheet.rows):
            for place, segment in enumerate(told):
                for other in self.spoilt_segments(segment):
                    if other == segment:
                        continue
                    spoilt += 1
                    self.assertIs(self.shows(4, self.with_segment(number, place, [other])), False, (segment, other))
        self.assertGreater(spoilt, 300)

    def spoilt_segments(self, segment):
        if segment[0] == "row":
            for look, base, rise, step in self.spoilt_rows(segment[1:] + (0,)):
                if not step:
                    yield ("row", look, base, rise)
            return
        rows, (base, rise) = segment[1:]
        for rounds in [(base + 1, rise), (base - 1, rise), (base, rise + 1), (base, rise - 1), (base, 0), (base, -rise),
                       (base - 1, rise + 1), (base + 10 ** 30, rise), (base, 10 ** 30), (rise, base)]:
            yield ("rows", rows, rounds)
        for place, each in enumerate(rows):
            for other in self.spoilt_rows(each):
                yield ("rows", rows[:place] + (other,) + rows[place + 1:], segment[2])
            yield ("rows", rows[:place] + rows[place + 1:], segment[2])
            yield ("rows", rows[:place] + (each,) + rows[place:], segment[2])

    def spoilt_rows(self, told):
        look, base, rise, step = told
        for more in (1, -1, 2, -5, 10 ** 30):
            yield (look, base + more, rise, step)
            yield (look, base, rise + more, step)
            yield (look, base, rise, step + more)
        yield (("word", (K,) * base), base, rise, step)
        for other in [("family", look[1] + (TOG,), look[2], look[3]), ("family", look[1], look[2], (TOG,) + look[3]),
                      ("family", look[1], look[2] + (TOG,), look[3]), ("family", look[1], (TOG,), look[3])]:
            yield (other, base, rise, step)

    def test_none_for_some(self):
        one = ring((5, -1), part((), [K]))
        self.assertTrue(Sheet(2, [(3, None), (3, None)]).shows(one, one))
        self.assertTrue(Sheet(2, [(4, None), (9, None)]).shows(one, one))
        self.assertFalse(Sheet(2, [(2, None), (3, None)]).shows(one, one))
        self.assertFalse(Sheet(2, [(3, None), (2, None)]).shows(one, one))
        self.assertFalse(Sheet(2, [(3, None), (3, ())]).shows(one, one))
        odd = ring((1, 1), part((), [K, K]))
        look = ("row", STEEL, 2, 2)
        self.assertTrue(Sheet(2, [(0, None), (0, (look,))]).shows(odd, odd))
        self.assertFalse(Sheet(2, [(0, (look,)), (0, (look,))]).shows(odd, odd))
        self.assertFalse(Sheet(2, [(0, None), (0, None)]).shows(odd, odd))
        # It is done once at the size 3 alone, and comes out nowhere else.
        scant = ring((5, 1), block((3, -1), row([K] * 7)))
        self.assertEqual(out_sizes(scant).early, (2, 3))
        self.assertTrue(Sheet(4, [(0, None), (0, None), (1, None), (1, None)]).shows(scant, scant))
        self.assertFalse(Sheet(4, [(0, None), (0, None), (1, None), (0, None)]).shows(scant, scant))

    def test_pieces_that_are_not_the_same_below_least(self):
        one, two = flat((4, 1), part([K, K], [K], [K, K])), flat((4, 1), part([K, K], [P], [K, K]))
        told = [(("row", ("family", (K, K), (P,), (K, K)), 4 + rest, 2),) for rest in (0, 1)]
        self.assertTrue(Sheet(2, [(0, told[0]), (0, told[1])]).shows(two, two))
        self.assertFalse(Sheet(2, [(0, told[0]), (0, told[1])]).shows(one, two))
        self.assertFalse(Sheet(2, [(9, told[0]), (9, told[1])]).shows(one, two))

    def test_other_ways_to_tell(self):
        one = ring((2, 0), block((0, 1), row([YO], [K])))
        look = ("family", (YO,), (K,), ())
        self.assertEqual(agreeing(one, one).period, 4)
        for ways in [
            lambda rest: [("rows", ((look, 3, 0, 1),), (rest, 4))],
            lambda rest: [("row", look, 3, 0), ("rows", ((look, 4, 0, 1),), (rest - 1, 4))],
            lambda rest: [("rows", ((look, 3, 0, 1),), (rest - 2, 4)), ("row", look, rest + 1, 4),
                          ("row", look, rest + 2, 4)],
            lambda rest: [("rows", ((look, 3, 0, 2), (look, 4, 0, 2)), (0, 2))] +
                         [("row", look, 3 + turn, 4) for turn in range(rest)],
            lambda rest: [("rows", ((look, 3, 0, 1),), (0, 1)), ("rows", ((look, 3, 1, 1),), (rest, 3))],
            lambda rest: [("rows", ((look, 3, 0, 3), (look, 4, 0, 3), (look, 5, 0, 3)), (0, 1)),
                          ("rows", ((look, 3, 3, 1),), (rest, 1))],
        ]:
            self.assertTrue(Sheet(4, [(1, tuple(ways(rest))) for rest in range(4)]).shows(one, one))
            self.assertFalse(Sheet(4, [(1, tuple(ways(rest + (rest == 3)))) for rest in range(4)]).shows(one, one))

    def test_numbers_of_rounds_that_lie_side_by_side_in_other_ways(self):
        # The rounds of two rows begin at other rows of a round of three, from k to k + 1.
        one = ring((2, 0), block((0, 1), PLAIN))
        for rest_rows in [[("rows", ((STEEL, 2, 0, 0),) * 2, (0, 1)), ("rows", ((STEEL, 2, 0, 0),) * 1, (0, 2))],
                          [("rows", ((STEEL, 2, 0, 0),) * 3, (0, 1)), ("rows", ((STEEL, 2, 0, 0),), (0, 1))]]:
            rows = [(1, tuple(rest_rows) + (("row", STEEL, 2, 0),) * rest) for rest in range(4)]
            self.assertTrue(Sheet(4, rows).shows(one, one))
        two = ring((2, 0), block((0, 1), PLAIN, row((), [P]), PLAIN))
        self.assertTrue(agreeing(two, two).shows(two, two))
        looks = ((STEEL, 2, 0, 0), (PURL, 2, 0, 0), (STEEL, 2, 0, 0))
        for many in (1, 2, 5, 11):
            told = [(1, (("rows", looks, (0, many)), ("rows", looks, (rest, 12 - many)))) for rest in range(12)]
            self.assertTrue(Sheet(12, told).shows(two, two))
            told = [(1, (("rows", looks, (0, many)), ("rows", looks[::-1], (rest, 12 - many)))) for rest in range(12)]
            self.assertTrue(Sheet(12, told).shows(two, two))
            told = [(1, (("rows", looks, (0, many)), ("rows", looks[1:] + looks[:1], (rest, 12 - many))))
                    for rest in range(12)]
            self.assertFalse(Sheet(12, told).shows(two, two))

    def test_rounds_of_other_numbers_of_rows(self):
        # At k = 1 the rows are the same, and at no greater one.
        one = ring((2, 0), block((0, 1), PLAIN, row((), [P])))
        look, other = (STEEL, 2, 0, 0), (PURL, 2, 0, 0)
        last = [(("row", STEEL, 2, 0), ("row", PURL, 2, 0)) * rest for rest in range(4)]
        told = [(1, (("rows", (look, other, look), (0, 1)), ("rows", (other, look, other, look, other), (0, 1))) + each)
                for each in last]
        self.assertFalse(Sheet(4, told).shows(one, one))
        told = [(1, (("rows", (look, other), (0, 3)), ("rows", (look, other), (0, 1))) + each) for each in last]
        self.assertTrue(Sheet(4, told).shows(one, one))

    def test_rows_ahead_of_a_block_told_together_with_it(self):
        # At the size 0 the block is not worked.
        one = ring((2, 0), part((), [K]), part((), [K]), block((0, 1), PLAIN))
        told = [(0, (("rows", ((STEEL, 2, 0, 0),), (2 + rest, 4)),)) for rest in range(4)]
        self.assertTrue(Sheet(4, told).shows(one, one))
        told[0] = (0, (("rows", ((STEEL, 2, 0, 0),), (3, 4)),))
        self.assertFalse(Sheet(4, told).shows(one, one))

    def test_rounds_that_do_not_rise(self):
        one = ring((2, 1), block((3, 0), row([YO], [K])))
        look = ("family", (YO,), (K,), ())
        told = [(0, (("rows", ((look, 3 + rest, 4, 1),), (3, 0)),)) for rest in range(4)]
        self.assertFalse(Sheet(4, told).shows(one, one))
        told = [(0, tuple(("row", look, 3 + rest + turn, 4) for turn in range(3))) for rest in range(4)]
        self.assertTrue(Sheet(4, told).shows(one, one))

    def test_words_that_are_the_same_at_some_lengths(self):
        # A look of other words, but the same at the one length that there is.
        one = ring((5, 0), block((0, 1), row([K], [P, K])))
        for look in [("family", (), (K, P), (K,)), ("word", (K, P, K, P, K)), ("family", (), (K, P, K, P, K), ())]:
            told = [(1, (("rows", ((look, 5, 0, 0),), (rest, 4)),)) for rest in range(4)]
            self.assertTrue(Sheet(4, told).shows(one, one))
        for look, many in [(("word", (K, P, K)), 5), (("word", (K, P, K, P, K)), 3), (("family", (), (K, P, K), ()), 5)]:
            told = [(1, (("rows", ((look, many, 0, 0),), (rest, 4)),)) for rest in range(4)]
            self.assertFalse(Sheet(4, told).shows(one, one))

    def test_measures_above_840(self):
        # Sheets and splits that are given refuse what agreeing does.
        one = ring((11, 0), part((), [K] * 11), block((0, 0), *[PLAIN] * 4))
        two = ring((11, 0), part((), [K]), block((0, 0), *[PLAIN] * 15))
        self.assertEqual(lcm(measure_of(one.parts), measure_of(two.parts)), 1320)
        told = (0, (("row", STEEL, 11, 0),))
        self.assertTrue(Split(0).shows(one, ring((11, 0))))
        for given in (Sheet(1320, [told] * 1320), Sheet(0, []), Split(0)):
            with self.assertRaises(TooLong):
                given.shows(one, two)
        with self.assertRaises(TooLong):
            agreeing(one, two)
        # The least common multiple may be 840.
        one = ring((60, 0), part((), [K] * 15), block((0, 0), *[PLAIN] * 4))
        two = ring((60, 0), part((), [K]), block((0, 0), *[PLAIN] * 7))
        self.assertEqual(lcm(measure_of(one.parts), measure_of(two.parts)), 840)
        self.assertTrue(Sheet(840, [(0, (("row", STEEL, 60, 0),))] * 840).shows(one, two))


if __name__ == "__main__":
    unittest.main()
