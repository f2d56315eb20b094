import unittest

from allstitches.counting import out_sizes, trouble
from allstitches.errors import BadPiece, BadSizes
from allstitches.pieces import Piece
from allstitches.reading import read_piece
from allstitches.repairing import Beyond, Repair, recast, repair
from allstitches.sizes import Sizes
from tests.pairs import plain_piece
from tests.things import BO, K, ODD_THINGS, TOG, YO, block, dice, flat, knit, part, random_piece, ring, row

ALL = Sizes((), 0, 1, (0,))
NONE = Sizes((), 0, 1, ())
PLAIN = row((), [K])
PAIR = part((), [K, K])
# Multiples of 2, 3, 4.
TWOS, THREES, FOURS = [Sizes((), 0, many, (0,)) for many in (2, 3, 4)]
NO_SETS = [Sizes((), 0, 43, (0,)), Sizes((), 0, 5040, (7,)), (0, 1), "none"] + ODD_THINGS


def all_changes(cast):
    """All changes with which a cast stays a line, in order, by the words of [25]."""
    found = [(base, rise) for base in range(-4, 5) for rise in range(-4, 5) if abs(base) + abs(rise) <= 4]
    found = [change for change in found
             if abs(cast[0] + change[0]) <= 99 and abs(cast[1] + change[1]) <= 9]
    return sorted(found, key=lambda change: (abs(change[0]) + abs(change[1]), change))


class TestRecast(unittest.TestCase):
    def test_some(self):
        piece = flat((6, 3), PAIR)
        found = recast(piece, (-2, 1))
        self.assertIsInstance(found, Piece)
        self.assertEqual((found.way, found.cast, found.parts), ("flat", (4, 4), piece.parts))
        self.assertEqual(recast(ring((6, 3)), (0, 0)).cast, (6, 3))
        self.assertEqual(recast(ring((6, 3)), (0, 0)).way, "round")
        self.assertEqual(piece.cast, (6, 3))

    def test_limits_of_a_line(self):
        for cast, change, right in [((98, 0), (1, 0), True), ((99, 0), (1, 0), False), ((-99, 0), (-1, 0), False),
                                    ((0, 9), (0, 1), False), ((0, -9), (0, -1), False), ((0, 8), (0, 1), True),
                                    ((99, 9), (-1, -3), True), ((99, 9), (-1, 1), False)]:
            if right:
                self.assertEqual(recast(flat(cast), change).cast, (cast[0] + change[0], cast[1] + change[1]))
                continue
            with self.assertRaises(BadPiece) as caught:
                recast(flat(cast), change)
            self.assertIsNone(caught.exception.part)


class TestRepair(unittest.TestCase):
    def check(self, piece, wanted):
        """The answer held against trying all changes, at all sizes up to where both sets repeat."""
        found = repair(piece, wanted)
        against = []
        best = None
        for change in all_changes(piece.cast):
            other = Piece(piece.way, (piece.cast[0] + change[0], piece.cast[1] + change[1]), piece.parts)
            if wanted.within(out_sizes(other)):
                best = change
                break
            against.append(change)
        self.assertIs(type(found), Beyond if best is None else Repair)
        self.assertIs(bool(found), best is not None)
        if best is not None:
            self.assertEqual(found.change, best)
        self.assertEqual(list(found.against), against)
        for change, size in found.against.items():
            self.assertIn(size, wanted)
            self.assertIsNotNone(trouble(recast(piece, change), size))
        self.assertIs(found.shows(piece, wanted), True)
        return found

    def test_example(self):
        told = repair(read_piece("flat on 6 + 3 s\nrow *k, p*\n"), Sizes((), 0, 1, (0,)))
        self.assertEqual([told.change, [change for change in told.against]], [(0, -1), [(0, 0), (-1, 0)]])

    def test_all_come_out_as_they_are(self):
        for piece, wanted in [(flat((6, 2), PAIR), ALL), (flat((6, 3), PAIR), TWOS), (flat((-1, 0)), NONE),
                              (flat((9, -1)), Sizes((2, 5), 6, 1, ()))]:
            found = self.check(piece, wanted)
            self.assertEqual((found.change, found.against), ((0, 0), {}))

    def test_changes_of_each_sum(self):
        triple, seven = part((), [K] * 3), part((), [K] * 7)
        self.assertEqual(self.check(flat((5, 2), PAIR), ALL).change, (-1, 0))
        self.assertEqual(self.check(flat((-1, 2)), ALL).change, (1, 0))
        self.assertEqual(self.check(flat((0, 3), PAIR), ALL).change, (0, -1))
        self.assertEqual(self.check(flat((5, 3), PAIR), ALL).change, (-1, -1))
        self.assertEqual(self.check(flat((-2, 3), triple), ALL).change, (2, 0))
        self.assertEqual(self.check(flat((3, 7), seven), ALL).change, (-3, 0))
        self.assertEqual(self.check(flat((4, 7), seven), ALL).change, (3, 0))
        self.assertEqual(self.check(flat((4, 8), seven), ALL).change, (3, -1))
        self.assertEqual(self.check(flat((3, 8), seven), ALL).change, (-3, -1))
        self.assertEqual(self.check(flat((2, 5), seven), ALL).change, (-2, 2))
        self.assertIsInstance(self.check(flat((4, 5), seven), ALL), Beyond)

    def test_which_of_several_is_the_first(self):
        # The one with the least base, then the least rise.
        self.assertEqual(self.check(flat((6, 3), PAIR), ALL).change, (0, -1))
        self.assertEqual(self.check(flat((5, 4), part((), [K] * 4)), ALL).change, (-1, 0))
        self.assertEqual(self.check(flat((6, 4), part((), [K] * 4)), ALL).change, (-2, 0))
        self.assertEqual(self.check(flat((9, 6), part((), [K] * 4)), ALL).change, (-1, -2))

    def test_casts_at_the_limits_of_a_line(self):
        self.assertEqual(self.check(flat((99, 0), PAIR), ALL).change, (-1, 0))
        self.assertEqual(self.check(flat((99, 9), PAIR), ALL).change, (-1, -1))
        for cast in [(99, 9), (-99, -9), (99, -9), (97, 7), (-96, 0)]:
            found = self.check(flat(cast, part([K] * 50)), ALL)
            self.assertIsInstance(found, Beyond)
            self.assertEqual(list(found.against), all_changes(cast))
        self.assertEqual([len(all_changes(cast)) for cast in [(0, 0), (99, 0), (99, 9)]], [41, 25, 15])

    def test_what_no_change_brings_out(self):
        for piece in (flat((6, 3), block((-1, 1), PLAIN)), flat((6, 3), part([K] * 3)), flat((-50, 3))):
            self.assertIsInstance(self.check(piece, ALL), Beyond)

    def test_wanted_sets(self):
        self.assertEqual(self.check(flat((6, 3), part((), [K] * 4)), FOURS).change, (-2, 0))
        self.assertEqual(self.check(flat((6, 3), part((), [K] * 4)), Sizes((2, 6), 7, 1, ())).change, (0, 0))
        self.assertEqual(self.check(flat((60, -1), PLAIN_PART), Sizes(tuple(range(62)), 62, 1, ())).change, (0, 1))
        self.assertEqual(self.check(flat((60, -9), PLAIN_PART), Sizes((7,), 8, 1, ())).change, (0, 1))
        self.assertIsInstance(self.check(flat((60, -9), PLAIN_PART), Sizes(tuple(range(65)), 65, 3, (1,))), Beyond)
        self.assertEqual(self.check(flat((60, -1), PLAIN_PART), Sizes((), 65, 3, (1,))).change, (0, 1))
        for wanted in (NONE, TWOS, THREES, Sizes((), 0, 42, (0,)), Sizes((), 0, 42, (5, 6, 41)), Sizes((3,), 9, 41, (2,))):
            for piece in (flat((6, 3), PAIR), flat((6, 3), part((), [K] * 7), block((3, -1), PLAIN)), flat((-3, 1))):
                self.check(piece, wanted)

    def test_sizes_that_come_out_by_themselves(self):
        # Where a block is worked once or not at all, its rows may fit though else they don't.
        piece = ring((4, 0), block((-3, 1), row([YO, K], [K, K, K])))
        for wanted in (Sizes((3, 4), 5, 1, ()), Sizes((3, 4), 5, 2, (0,)), Sizes((), 3, 1, (0,)), Sizes((3,), 4, 1, ()),
                       Sizes((), 4, 42, (0,)), Sizes((2, 3), 4, 1, ())):
            self.check(piece, wanted)
        # As often as not those are the only wanted sizes in the first rounds.
        one = ring((0, 0), block((-90, 1), row([YO], [K, K, K])), block((9, -9), PLAIN))
        for wanted in (Sizes((), 90, 42, (0,)), Sizes((), 91, 42, (0,)), ALL, Sizes((), 1, 42, (0,))):
            self.check(one, wanted)

    def test_sizes_far_out(self):
        thin = [part((), [TOG])] * 5
        late = ring((0, 1), *thin, *[block((99, 0), row([BO] * 12, [K]))] * 33)
        low = out_sizes(late).least()
        self.assertGreater(low, 100000)
        found = repair(late, Sizes((), 0, 32, (0,)))
        self.assertEqual((bool(found), set(found.against.values())), (False, {0}))
        self.assertTrue(found.shows(late, Sizes((), 0, 32, (0,))))
        # The last one that comes out is the last of a million.
        long = ring((0, 0), block((99, 0), *[row([YO] * 12, [K])]), *[block((99, 0), row([YO] * 12, [K]))] * 37,
                    part((), [K]))
        self.assertEqual(repair(long, ALL).change, (0, 0))
        falling = ring((9, -1), *[block((99, 0), row([YO] * 12, [K]))] * 38, part([], [K]))
        wanted = Sizes((), 0, 1, (0,))
        self.assertFalse(repair(falling, wanted).against[(0, 0)] < 9)
        self.assertTrue(repair(falling, wanted).shows(falling, wanted))
        self.assertEqual(repair(falling, wanted).change, (0, 1))
        for wanted in (Sizes((), 0, 3, (1,)), Sizes((1,), 4, 3, (2,)), Sizes((), 2, 2, (1,))):
            found = repair(falling, wanted)
            self.assertTrue(found.shows(falling, wanted))
            self.assertEqual(found.against[(0, 0)], (wanted - out_sizes(falling)).least())

    def test_against_trying_sizes(self):
        random = dice(251)
        repaired = 0
        for _ in range(150):
            piece = random.choice([random_piece, plain_piece])(random)
            period = random.choice([1, 1, 2, 3, 4, 6])
            wanted = Sizes(tuple(sorted(random.sample(range(4), random.randint(0, 2)))), 4, period,
                           tuple(sorted(random.sample(range(period), random.randint(0, min(2, period))))))
            found = self.check(piece, wanted)
            repaired += bool(found) and found.change != (0, 0)
            for size in wanted.first(12) if found else []:
                self.assertIsNone(knit(recast(piece, found.change), size)[2])
        self.assertGreater(repaired, 20)

    def test_what_is_no_wanted_set(self):
        piece = flat((6, 3), PAIR)
        self.check(piece, Sizes((), 0, 42, (0, 7)))
        for thing in NO_SETS:
            for function in (repair, Repair((0, 0), {}).shows, Beyond({}).shows):
                with self.assertRaises(BadSizes):
                    function(piece, thing)

    def test_the_period_of_the_least_form(self):
        self.assertTrue(repair(flat((6, 3), PAIR), Sizes((), 0, 84, (0, 42))))
        self.assertTrue(repair(flat((6, 2), PAIR), Sizes((), 0, 5040, tuple(range(5040)))))


PLAIN_PART = part((), [K])


class TestShows(unittest.TestCase):
    def setUp(self):
        self.piece, self.wanted = flat((5, 3), PAIR), TWOS
        self.found = repair(self.piece, self.wanted)
        self.far = flat((5, 3), part([K] * 3))

    def test_it_shows(self):
        self.assertEqual((self.found.change, self.found.against), ((-1, 0), {(0, 0): 0}))
        self.assertTrue(Repair((-1, 0), {(0, 0): 4}).shows(self.piece, self.wanted))
        self.assertFalse(self.found.shows(self.piece, THREES))
        self.assertFalse(self.found.shows(flat((6, 3), PAIR), self.wanted))

    def test_other_changes(self):
        for change, right in [((0, 0), False), ((1, 0), False), ((-1, 0), True), ((-1, 1), False), ((-5, 0), False),
                              ((3, 2), False), ((10 ** 30, 1), False)]:
            self.assertIs(Repair(change, {(0, 0): 0}).shows(self.piece, self.wanted), right)
        # All in front of a later one come with it; some of them come out.
        changes = all_changes(self.piece.cast)
        self.assertFalse(Repair((1, 0), {change: 0 for change in changes[:changes.index((1, 0))]})
                         .shows(self.piece, self.wanted))

    def test_keys_and_sizes(self):
        for against in [{}, {(0, 0): 1}, {(0, 0): 2, (1, 0): 0}, {(1, 0): 0}, {(0, 0): -2}, {(0, 0): 3},
                        {(0, 0): -1}, {(-1, 0): 0}, {(0, 0): 10 ** 30 + 1}]:
            self.assertIs(Repair((-1, 0), against).shows(self.piece, self.wanted), False)
        for size in (0, 2, 8, 10 ** 30):
            self.assertIs(Repair((-1, 0), {(0, 0): size}).shows(self.piece, self.wanted), True)

    def test_a_size_that_does_come_out(self):
        wanted = Sizes((0, 1, 2), 3, 1, ())
        piece = flat((6, 3), PAIR)
        self.assertEqual(repair(piece, wanted).against, {(0, 0): 1, (-1, 0): 0})
        for size, right in [(0, False), (1, True), (2, False), (3, False)]:
            self.assertIs(Repair((0, -1), {(0, 0): size, (-1, 0): 0}).shows(piece, wanted), right)

    def test_any_order_of_the_dict(self):
        found = repair(flat((9, 8), part((), [K] * 7)), ALL)
        self.assertGreater(len(found.against), 3)
        piece = flat((9, 8), part((), [K] * 7))
        turned = Repair(found.change, {change: found.against[change] for change in list(found.against)[::-1]})
        self.assertTrue(turned.shows(piece, ALL))
        for change in found.against:
            less = {other: size for other, size in found.against.items() if other != change}
            self.assertFalse(Repair(found.change, less).shows(piece, ALL))
            self.assertFalse(Repair(found.change, {**less, (9, 9): 0}).shows(piece, ALL))
        self.assertFalse(Repair(found.change, {**found.against, found.change: 0}).shows(piece, ALL))

    def test_beyond(self):
        found = repair(self.far, ALL)
        self.assertIsInstance(found, Beyond)
        self.assertEqual(len(found.against), 41)
        self.assertTrue(Beyond({change: found.against[change] for change in list(found.against)[::-1]})
                        .shows(self.far, ALL))
        for change in list(found.against)[::5]:
            less = {other: size for other, size in found.against.items() if other != change}
            self.assertFalse(Beyond(less).shows(self.far, ALL))
            self.assertFalse(Beyond({**less, (5, 0): 9}).shows(self.far, ALL))
            self.assertFalse(Beyond({**found.against, change: -1}).shows(self.far, ALL))
        self.assertFalse(Beyond({**found.against, (5, 0): 9}).shows(self.far, ALL))
        self.assertFalse(Beyond({}).shows(self.far, ALL))
        self.assertFalse(found.shows(flat((3, 0), part([K] * 3)), ALL))
        # A size that comes out with the change.
        far = flat((5, 3), part([K] * 7))
        found = repair(far, ALL)
        self.assertEqual(trouble(recast(far, (-1, 0)), 1), None)
        self.assertFalse(Beyond({**found.against, (-1, 0): 1}).shows(far, ALL))
        self.assertTrue(Beyond({**found.against, (-1, 0): 77}).shows(far, ALL))

    def test_what_was_given_is_copied(self):
        against = {(0, 0): 0}
        found = Repair((-1, 0), against)
        against[(1, 0)] = 5
        self.assertEqual(found.against, {(0, 0): 0})
        self.found.against.clear()
        self.assertEqual(repair(self.piece, self.wanted).against, {(0, 0): 0})
        against = {change: 9 for change in all_changes((5, 3))}
        far = Beyond(against)
        against.clear()
        self.assertEqual(len(far.against), 41)


if __name__ == "__main__":
    unittest.main()
