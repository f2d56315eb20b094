import unittest

from allstitches.charting import Chart, cheapest_parts
from allstitches.faults import BadChart
from allstitches.reading import read_row
from tests.test_rewriting import cost_of
from tests.things import BO, K, KFB, ODD_THINGS, P, TOG, YO, block, dice, part, row

KNIT, PURL, EMPTY = row((), [K]), row((), [P]), row()
RIB = read_row("k, *2 k, 2 p*, k")


def gain(rows):
    """What before and after of rows make, less what they take."""
    made = {"k": 0, "p": 0, "yo": 1, "bo": -1, "k2tog": -1, "kfb": 1}
    return sum(made[kind] for one in rows for word in (one[0], one[2]) for kind, _ in word)


def may_be_block(rows):
    grown = {"kfb": 1, "yo": 1, "k2tog": -1, "bo": -1}
    even = all(sum(grown.get(kind, 0) for kind, _ in one[1]) == 0 for one in rows)
    return even and -12 <= gain(rows) <= 12 and len(rows) <= 20


def parts_for(rows):
    """All parts that have just these rows, with their costs, by the words of [13]."""
    found = []
    if len(rows) == 1:
        found.append((("row", rows[0]), 1 + cost_of(rows[0])))
    for many in range(1, len(rows)):
        first = tuple(rows[:many])
        if list(first) * (len(rows) // many) == rows and may_be_block(first):
            line = (len(rows) // many, 0)
            found.append((("block", line, first), 2 + sum(cost_of(one) for one in first)))
    return found


def least_cost(chart, known):
    """The least cost of parts for a chart, found by trying all."""
    if not chart:
        return 0
    key = tuple(chart)
    if key not in known:
        known[key] = min(least_cost(chart[many:], known) + told for many in range(1, len(chart) + 1)
                         for _, told in parts_for(chart[:many]))
    return known[key]


def rows_in(parts):
    return [one for told in parts
            for one in ([told[1]] if told[0] == "row" else list(told[2]) * told[1][0])]


def part_cost(told):
    return 1 + cost_of(told[1]) if told[0] == "row" else 2 + sum(cost_of(one) for one in told[2])


def random_chart(dice, most):
    rows = [KNIT, PURL, RIB, row([K]), row([YO], [K]), row([BO], [K]), row((), [KFB])]
    chart = [dice.choice(rows[:5]) for _ in range(dice.randint(0, 3))]
    while len(chart) < most and dice.random() < 0.85:
        way = dice.randint(0, 2)
        if way == 0:
            chart = chart + [dice.choice(rows)]
        elif way == 1:
            chart = chart + chart[-dice.randint(1, 4):] * dice.randint(1, 3)
        else:
            chart = chart * 2
    return chart[:most]


class TestCheapestParts(unittest.TestCase):
    def check(self, chart, least=None):
        found = cheapest_parts(chart)
        self.assertIsInstance(found, Chart)
        self.assertIsInstance(found.parts, tuple)
        self.assertEqual(rows_in(found.parts), chart)
        for told in found.parts:
            if told[0] == "block":
                self.assertTrue(told[1][0] > 1 and told[1][1] == 0 and may_be_block(told[2]), told)
        self.assertEqual(sum(part_cost(told) for told in found.parts), found.bounds[-1])
        self.assertIs(found.shows(chart), True)
        self.assertEqual(len(found.bounds), len(chart) + 1)
        self.assertLessEqual(found.bounds[0], 0)
        for high in range(1, len(chart) + 1):
            for low in range(high):
                for _, told in parts_for(chart[low:high]):
                    self.assertLessEqual(found.bounds[high], found.bounds[low] + told)
        if least is not None:
            self.assertEqual(found.bounds[-1], least)
        return found

    def test_example(self):
        one, other = read_row("*k*"), read_row("*p*")
        told = cheapest_parts([one, other, one, other])
        self.assertEqual([[told[:2] for told in told.parts], told.bounds[4]], [[("block", (2, 0))], 8])

    def test_no_rows_and_one_row(self):
        found = self.check([], 0)
        self.assertEqual((found.parts, found.bounds), ((), [0]))
        found = self.check([KNIT], 4)
        self.assertEqual((found.parts, found.bounds), ((("row", KNIT),), [0, 4]))
        self.check([EMPTY], 1)

    def test_rows_told_again_and_again(self):
        # A block costs less than two rows, unless these cost nothing.
        self.assertEqual(self.check([KNIT] * 2, 5).parts, (block((2, 0), KNIT),))
        self.assertEqual(self.check([KNIT] * 60, 5).parts, (block((60, 0), KNIT),))
        self.check([EMPTY] * 2, 2)
        self.check([EMPTY] * 3, 2)
        self.check([KNIT] * 3 + [PURL] * 3 + [RIB], 5 + 5 + part_cost(("row", RIB)))

    def test_rounds_of_several_rows(self):
        self.assertEqual(self.check([KNIT, PURL] * 30, 8).parts, (block((30, 0), KNIT, PURL),))
        self.check([KNIT, KNIT, PURL] * 20, 11)
        self.check([PURL] + [KNIT, RIB] * 5 + [KNIT], 4 + 2 + 3 + cost_of(RIB) + 4)
        # Rounds of twenty rows, but not of more.
        rows = [row([K] * many, [P]) for many in range(1, 22)]
        self.check(rows[:20] * 2, 2 + sum(cost_of(one) for one in rows[:20]))
        self.check(rows * 2, 2 * sum(1 + cost_of(one) for one in rows))

    def test_rows_that_make_up_for_each_other(self):
        more, less = row([YO] * 13, [K]), row([BO] * 13, [K])
        self.check([more, less] * 2, 2 + 2 * cost_of(more))
        self.check([more] * 2, 2 * (1 + cost_of(more)))
        self.check([less] * 4, 4 * (1 + cost_of(less)))
        self.check([more, less, less] * 2)

    def test_a_change_of_12_loops_and_of_13(self):
        for kind in ("yo", "bo"):
            twelve, thirteen = row([(kind, "a")] * 12, [K]), row([(kind, "a")] * 13, [K])
            self.check([twelve] * 3, 2 + 5)
            self.check([thirteen] * 3, 3 * 6)
            self.check([row([(kind, "a")] * 6, [K])] * 2 + [KNIT] * 2 + [row([(kind, "a")] * 6, [K])] * 2)
        self.check([row([YO] * 12, [K]), row([YO], [K])] * 2, 6 + 5 + 6 + 5)

    def test_groups_that_make_more_or_less_are_no_block(self):
        grown, shrunk, even = row((), [KFB]), row((), [TOG]), row((), [TOG, YO])
        self.check([grown] * 3, 12)
        self.check([shrunk] * 3, 12)
        self.check([grown, shrunk] * 2, 16)
        self.check([even] * 3, 2 + cost_of(even))

    def test_against_trying_all_parts_of_short_charts(self):
        random = dice(131)
        known = {}
        for _ in range(120):
            chart = random_chart(random, 10)
            self.check(chart, least_cost(chart, known))

    def test_60_rows_and_61(self):
        random = dice(132)
        for _ in range(3):
            chart = random_chart(random, 59)
            chart = (chart or [KNIT]) * 60
            found = cheapest_parts(chart[:60])
            self.assertTrue(found.shows(chart[:60]))
        told = cheapest_parts([])
        for thing in [[KNIT] * 61, chart[:61], (KNIT,), (), KNIT, [KNIT, None], [KNIT, [(), (), ()]], {KNIT: 1}, [()],
                      [row([YO] * 61)]] + [thing for thing in ODD_THINGS if thing != []]:
            with self.assertRaises(BadChart):
                cheapest_parts(thing)
            with self.assertRaises(BadChart):
                told.shows(thing)

    def test_more_than_40_parts(self):
        chart = [row([K] * many, [P]) for many in range(1, 61)]
        self.assertEqual(len(self.check(chart).parts), 60)

    def test_the_chart_is_not_kept(self):
        chart = [KNIT, PURL]
        found = cheapest_parts(chart)
        chart.clear()
        self.assertTrue(found.shows([KNIT, PURL]))
        self.assertEqual(cheapest_parts([KNIT, PURL]).bounds, found.bounds)


class TestShows(unittest.TestCase):
    def test_spoilt_bounds(self):
        random = dice(133)
        for _ in range(40):
            chart = random_chart(random, 12)
            right = cheapest_parts(chart)
            for place in range(len(chart) + 1):
                for more in (1, 10 ** 30):
                    bounds = list(right.bounds)
                    bounds[place] += more
                    self.assertIs(Chart(right.parts, bounds).shows(chart), False, (chart, place))
                bounds = right.bounds[:place] + right.bounds[place + 1:]
                self.assertIs(Chart(right.parts, bounds).shows(chart), False)
            for bounds in [[], right.bounds + [right.bounds[-1]], right.bounds[:-1] + [right.bounds[-1] - 1]]:
                self.assertIs(Chart(right.parts, bounds).shows(chart), False)

    def test_other_bounds_may_do(self):
        chart = [KNIT, PURL, KNIT, PURL]
        right = cheapest_parts(chart)
        self.assertEqual(right.bounds, [0, 4, 8, 12, 8])
        for bounds, told in [([0, 4, 8, 11, 8], True), ([0, 4, 8, 4, 8], True), ([0, 4, 8, 3, 8], False),
                             ([0, -5, -1, 3, 8], False), ([-1, 3, 7, 11, 8], False), ([0, 3, 7, 11, 8], True)]:
            self.assertIs(Chart(right.parts, bounds).shows(chart), told, bounds)

    def test_spoilt_parts(self):
        chart = [KNIT, PURL, KNIT, PURL, RIB]
        right = cheapest_parts(chart)
        self.assertEqual(right.parts, (block((2, 0), KNIT, PURL), ("row", RIB)))
        rows = [("row", one) for one in chart]
        for parts in [(), right.parts[:1], right.parts[1:], right.parts[::-1], right.parts * 2, tuple(rows),
                      (block((1, 0), KNIT, PURL),) + tuple(rows[2:]), (block((3, 0), KNIT, PURL), rows[4]),
                      (block((2, 1), KNIT, PURL), rows[4]), (block((2, 0), PURL, KNIT), rows[4]),
                      (block((0, 0), RIB),) + right.parts, (block((-1, 0), RIB),) + right.parts,
                      (block((0, 2), KNIT, PURL), rows[4]), (block((10 ** 30, 0), KNIT, PURL), rows[4]),
                      (block((2, 10 ** 30), KNIT, PURL), rows[4]), (block((1, 0), KNIT, PURL, KNIT, PURL), rows[4]),
                      right.parts + (("row", KNIT),), (("row", KNIT),) + right.parts]:
            self.assertIs(Chart(parts, right.bounds).shows(chart), False, parts)
            dearer = right.bounds[:-1] + [sum(part_cost(told) for told in parts)]
            self.assertIs(Chart(parts, dearer).shows(chart), False, parts)

    def test_a_block_done_once_is_no_part_for_a_chart(self):
        # It would cost less than its rows.
        chart = [KNIT, PURL, RIB]
        right = cheapest_parts(chart)
        told = block((1, 0), *chart)
        self.assertEqual(part_cost(told), right.bounds[-1] - 1)
        self.assertFalse(Chart((told,), right.bounds[:-1] + [part_cost(told)]).shows(chart))

    def test_blocks_that_are_no_parts(self):
        grown = row((), [KFB])
        right = cheapest_parts([grown] * 2)
        bounds = right.bounds[:-1] + [5]
        self.assertFalse(Chart((block((2, 0), grown),), bounds).shows([grown] * 2))
        rows = [row([K] * many, [P]) for many in range(1, 22)]
        told = block((2, 0), *rows)
        self.assertFalse(Chart((told,), cheapest_parts(rows * 2).bounds[:-1] + [part_cost(told)]).shows(rows * 2))

    def test_parts_that_cost_as_much(self):
        chart = [EMPTY] * 2
        for parts in [(part(), part()), (block((2, 0), EMPTY),)]:
            self.assertTrue(Chart(parts, [0, 1, 2]).shows(chart))

    def test_what_is_given_is_copied(self):
        chart = [KNIT, PURL]
        right = cheapest_parts(chart)
        bounds = list(right.bounds)
        told = Chart(right.parts, bounds)
        bounds.clear()
        self.assertTrue(told.shows(chart))
        told.bounds.append(0)
        self.assertFalse(told.shows(chart))


if __name__ == "__main__":
    unittest.main()
