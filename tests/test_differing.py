import unittest

from allstitches.differing import Changes, distance, fewest_changes
from allstitches.edits import edited
from allstitches.errors import StitchError
from allstitches.pieces import Piece
from allstitches.reading import read_piece
from tests.things import K, P, TOG, block, dice, flat, part, ring, row

ONE, TWO = row([], [K]), row([], [P])
PARTS = [part((), [K]), part((), [P]), part([TOG], [K]), block((1, 1), ONE), block((2, 0), ONE), block((2, 0), TWO),
         block((1, 1), ONE, TWO)]


def alterable(here, there):
    return here[0] == there[0] and (here[0] == "row" or here[2] == there[2])


def least(ones, others):
    """The least cost of all ways, tried one by one."""
    if not ones or not others:
        return len(ones) + len(others)
    found = [1 + least(ones[1:], others), 1 + least(ones, others[1:])]
    if ones[0] == others[0]:
        found.append(least(ones[1:], others[1:]))
    elif alterable(ones[0], others[0]):
        found.append(1 + least(ones[1:], others[1:]))
    return min(found)


def heads(one, other):
    return (one.way != other.way) + (one.cast != other.cast)


def cost_of(one, other, steps):
    """The cost of steps from one piece to another, by the words of [26]; fails if they are none."""
    i = j = cost = 0
    for step in steps:
        kind, places = step[0], list(step[1:])
        assert places == {"keep": [i, j], "alter": [i, j], "take": [i], "put": [j]}[kind]
        if kind in ("keep", "alter"):
            here, there = one.parts[i], other.parts[j]
            assert here == there if kind == "keep" else here != there and alterable(here, there)
        cost += kind != "keep"
        i, j = i + (kind != "put"), j + (kind != "take")
    assert (i, j) == (len(one.parts), len(other.parts))
    return cost + heads(one, other)


def random_piece(dice, most=4):
    parts = tuple(dice.choice(PARTS) for _ in range(dice.randint(0, most)))
    return Piece(dice.choice(["flat", "flat", "round"]), dice.choice([(4, 1), (4, 1), (5, 1)]), parts)


class TestFewestChanges(unittest.TestCase):
    def check(self, one, other):
        found = fewest_changes(one, other)
        self.assertIsInstance(found, Changes)
        self.assertIsInstance(found.steps, list)
        cost = cost_of(one, other, found.steps)
        self.assertEqual(cost, least(one.parts, other.parts) + heads(one, other))
        self.assertEqual(distance(one, other), cost)
        self.assertIs(found.shows(one, other), True)
        self.check_bounds(one, other, found.bounds, cost)
        return found

    def check_bounds(self, one, other, bounds, cost):
        many, more = len(one.parts), len(other.parts)
        self.assertEqual(set(bounds), {(i, j) for i in range(many + 1) for j in range(more + 1)})
        self.assertLessEqual(bounds[(0, 0)], heads(one, other))
        for i, j in bounds:
            if i < many:
                self.assertLessEqual(bounds[(i + 1, j)], bounds[(i, j)] + 1)
            if j < more:
                self.assertLessEqual(bounds[(i, j + 1)], bounds[(i, j)] + 1)
            if i < many and j < more and alterable(one.parts[i], other.parts[j]):
                step = 0 if one.parts[i] == other.parts[j] else 1
                self.assertLessEqual(bounds[(i + 1, j + 1)], bounds[(i, j)] + step)
        self.assertEqual(bounds[(many, more)], cost)

    def test_example(self):
        one = read_piece("flat on 5\nrow *k*\nblock s\n  *p*\n")
        other = read_piece("flat on 6\nblock 1 + s\n  *p*\nrow *k*\n")
        self.assertEqual([distance(one, other), fewest_changes(one, other).steps],
                         [3, [('put', 0), ('keep', 0, 1), ('take', 1)]])

    def test_one_piece_and_itself(self):
        for piece in (flat((4, 1)), ring((4, 1), *PARTS)):
            found = self.check(piece, Piece(piece.way, piece.cast, piece.parts))
            self.assertEqual(found.steps, [("keep", at, at) for at in range(len(piece.parts))])
            self.assertEqual(distance(piece, piece), 0)

    def test_ways_and_casts(self):
        self.assertEqual(distance(flat((4, 1)), ring((4, 1))), 1)
        self.assertEqual(distance(flat((4, 1)), flat((4, 2))), 1)
        self.assertEqual(distance(flat((4, 1)), flat((5, 1))), 1)
        self.assertEqual(distance(flat((4, 1)), ring((5, 2))), 2)
        found = self.check(flat((4, 1)), ring((5, 2)))
        self.assertEqual((found.steps, found.bounds), ([], {(0, 0): 2}))

    def test_each_step(self):
        knit, purl, once, twice, other = PARTS[0], PARTS[1], PARTS[3], PARTS[4], PARTS[5]
        for ones, others, steps in [
                ([knit], [purl], [("alter", 0, 0)]), ([once], [twice], [("alter", 0, 0)]),
                ([knit], [], [("take", 0)]), ([], [knit], [("put", 0)]),
                ([knit, once], [once], [("take", 0), ("keep", 1, 0)]),
                ([knit, once], [knit, twice], [("keep", 0, 0), ("alter", 1, 0 + 1)])]:
            self.assertEqual(self.check(flat((4, 1), *ones), flat((4, 1), *others)).steps, steps)
        # Blocks with other rows, and a block and a row, are not altered.
        for here, there in [(twice, other), (knit, once), (once, knit)]:
            self.assertEqual(distance(flat((4, 1), here), flat((4, 1), there)), 2)

    def test_against_trying_all_ways(self):
        random = dice(262)
        for _ in range(300):
            one, other = random_piece(random), random_piece(random)
            self.check(one, other)
            # Both ways cost as much.
            self.assertEqual(distance(other, one), distance(one, other))

    def test_an_edit_is_near(self):
        random = dice(263)
        for _ in range(100):
            piece = random_piece(random, 5)
            for edit, most in [(("drop", 0), 1), (("swap", 1), 2), (("alike", 0, 0, 0), 0), (("split", 2, (1, 0)), 2)]:
                try:
                    self.assertLessEqual(distance(piece, edited(piece, edit)), most)
                except StitchError:
                    pass

    def test_many_parts(self):
        random = dice(264)
        one = flat((4, 1), *[random.choice(PARTS[:2]) for _ in range(40)])
        other = flat((4, 1), *[random.choice(PARTS[:2]) for _ in range(39)])
        found = fewest_changes(one, other)
        self.assertEqual(cost_of(one, other, found.steps), distance(one, other))
        self.check_bounds(one, other, found.bounds, distance(one, other))
        self.assertTrue(found.shows(one, other))
        self.assertEqual(len(found.bounds), 41 * 40)


class TestShows(unittest.TestCase):
    def setUp(self):
        self.one = flat((4, 1), PARTS[0], PARTS[3], PARTS[1])
        self.other = ring((4, 1), PARTS[3], PARTS[1], PARTS[5])
        found = fewest_changes(self.one, self.other)
        self.steps, self.bounds = found.steps, found.bounds

    def shows(self, steps, bounds):
        return Changes(steps, bounds).shows(self.one, self.other)

    def test_as_it_is(self):
        self.assertEqual(self.steps, [("take", 0), ("keep", 1, 0), ("keep", 2, 1), ("put", 2)])
        self.assertIs(self.shows(self.steps, self.bounds), True)
        found = Changes(self.steps, self.bounds)
        for one, other in [(self.other, self.one), (self.one, self.one), (flat((4, 1)), self.other),
                           (ring((4, 1), *self.one.parts), self.other), (flat((5, 1), *self.one.parts), self.other)]:
            self.assertIs(found.shows(one, other), False)

    def test_other_steps(self):
        for steps in [[], self.steps[1:], self.steps[:-1], self.steps[::-1], self.steps + [("put", 3)],
                      self.steps + [("take", 3)], self.steps + self.steps[-1:], self.steps[:1] * 2 + self.steps[1:],
                      [("take", 1)] + self.steps[1:], [("take", -1)] + self.steps[1:], [("put", 0)] + self.steps[1:],
                      [("keep", 0, 0)] + self.steps[1:], [("take", 0), ("alter", 1, 0), ("keep", 2, 1), ("put", 2)],
                      [("take", 0), ("keep", 1, 0), ("keep", 1, 1), ("put", 2)],
                      [("take", 0), ("keep", 1, 0), ("keep", 10 ** 30, 1), ("put", 2)],
                      # These lead there, but cost more.
                      [("take", 0), ("take", 1), ("put", 0), ("keep", 2, 1), ("put", 2)],
                      [("take", 0), ("take", 1), ("take", 2), ("put", 0), ("put", 1), ("put", 2)],
                      # These change what can't be altered.
                      [("alter", 0, 0), ("alter", 1, 1), ("alter", 2, 2)]]:
            self.assertIs(self.shows(steps, self.bounds), False)

    def test_steps_that_end_too_early(self):
        # What is left out costs nothing.
        found = fewest_changes(self.one, self.one)
        for many in range(3):
            self.assertIs(Changes(found.steps[:many], found.bounds).shows(self.one, self.one), False)

    def test_bounds(self):
        for pair in self.bounds:
            self.assertIs(self.shows(self.steps, {**self.bounds, pair: self.bounds[pair] + 1}), False)
            less = {other: bound for other, bound in self.bounds.items() if other != pair}
            self.assertIs(self.shows(self.steps, less), False)
            self.assertIs(self.shows(self.steps, {**less, (pair[0], pair[1] + 7): self.bounds[pair]}), False)
            self.assertIs(self.shows(self.steps, {**less, (-1, 0): self.bounds[pair]}), False)
        self.assertIs(self.shows(self.steps, {**self.bounds, (4, 0): 4}), False)
        self.assertIs(self.shows(self.steps, {}), False)
        self.assertIs(self.shows(self.steps, {**self.bounds, (3, 3): self.bounds[(3, 3)] - 1}), False)
        # One that is less bars no steps, if those behind it are so low, too.
        self.assertIs(self.shows(self.steps, {**self.bounds, (0, 0): 0}), False)
        self.assertIs(self.shows(self.steps, {**self.bounds, (0, 3): -10 ** 30}), False)
        self.assertIs(self.shows(self.steps, {**self.bounds, (3, 0): self.bounds[(3, 0)] - 1}), True)

    def test_all_spoilt_bounds_against_their_words(self):
        random = dice(265)
        right = 0
        for _ in range(400):
            one, other = random_piece(random, 2), random_piece(random, 2)
            found = fewest_changes(one, other)
            pair = random.choice(list(found.bounds))
            bounds = {**found.bounds, pair: found.bounds[pair] + random.choice([-2, -1, 1])}
            fits = bounds[(0, 0)] <= heads(one, other)
            for i, j in bounds:
                for at, step in [((i + 1, j), 1), ((i, j + 1), 1)]:
                    fits &= at not in bounds or bounds[at] <= bounds[(i, j)] + step
                if (i + 1, j + 1) in bounds and alterable(one.parts[i], other.parts[j]):
                    fits &= bounds[(i + 1, j + 1)] <= bounds[(i, j)] + (one.parts[i] != other.parts[j])
            fits &= bounds[(len(one.parts), len(other.parts))] == cost_of(one, other, found.steps)
            self.assertIs(Changes(found.steps, bounds).shows(one, other), fits)
            right += fits
        self.assertGreater(right, 5)

    def test_what_was_given_is_copied(self):
        steps, bounds = list(self.steps), dict(self.bounds)
        found = Changes(steps, bounds)
        steps.pop()
        bounds.clear()
        self.assertTrue(found.shows(self.one, self.other))
        spoilt = fewest_changes(self.one, self.other)
        spoilt.steps.clear()
        spoilt.bounds.clear()
        self.assertEqual(fewest_changes(self.one, self.other).steps, self.steps)


if __name__ == "__main__":
    unittest.main()
