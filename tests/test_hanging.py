import unittest

from allstitches.counting import out_sizes
from allstitches.errors import BadSize, NotOut, TooLong
from allstitches.faults import NoCell
from allstitches.hanging import above, below, hangs_on, undone, where_closed
from allstitches.kinds import KINDS
from allstitches.pieces import Piece
from allstitches.reading import read_piece
from allstitches.sizes import Sizes
from tests.pairs import plain_piece
from tests.things import (BO, CABLE, CDD, K, KFB, ODD_THINGS, P, TOG, YO, block, cloth_at, dice, flat, knit, part,
                          random_piece, ring, row, told)

ALL = Sizes((), 0, 1, (0,))
NONE = Sizes((), 0, 1, ())
PLAIN = row((), [K])


def hung(looks):
    """The pairs ((row, place), (row below, place)) of cells that share a loop, by the words of [22]."""
    pairs = set()
    for number in range(1, len(looks)):
        makers = [place for place, (kind, _) in enumerate(looks[number - 1]) for _ in range(KINDS[kind][1])]
        for place, (kind, _) in enumerate(looks[number]):
            for _ in range(KINDS[kind][0]):
                pairs.add(((number, place), (number - 1, makers.pop(0))))
    return pairs


def all_below(pairs, row, place):
    cells = [{place}]
    for number in range(row, 0, -1):
        cells.append({there[1] for here, there in pairs if here[0] == number and here[1] in cells[-1]})
    return [sorted(places) for places in cells]


class TestHanging(unittest.TestCase):
    def test_example(self):
        piece = read_piece("flat on 4\nrow *k*\nrow p2tog, *p*\nrow kfb, *k*\n")
        self.assertEqual([hangs_on(piece, 0, 1, 2), hangs_on(piece, 0, 2, 2), undone(piece, 0, 0)],
                         [[[2], [2, 3]], [[2], [2], [2, 3]], [[0], [0], [0]]])

    def test_decreases_and_increases(self):
        piece = ring((5, 0), part((), [K]), part([TOG, K, TOG]), part([KFB], [K]), part([CDD], [K]))
        self.assertEqual([below(piece, 0, 1, place) for place in range(3)], [[0, 1], [2], [3, 4]])
        self.assertEqual([above(piece, 0, 0, place) for place in range(5)], [[0], [0], [1], [2], [2]])
        self.assertEqual([below(piece, 0, 2, place) for place in range(3)], [[0], [1], [2]])
        self.assertEqual([below(piece, 0, 3, place) for place in range(2)], [[0, 1], [2]])
        self.assertEqual([above(piece, 0, 2, place) for place in range(3)], [[0], [0], [1]])
        self.assertEqual(hangs_on(piece, 0, 3, 0), [[0], [0, 1], [0, 1], [0, 1, 2]])
        self.assertEqual(hangs_on(piece, 0, 3, 1), [[1], [2], [2], [3, 4]])

    def test_cells_that_make_several_of_the_loops(self):
        piece = ring((2, 0), part([K, KFB]), part([CDD]))
        self.assertEqual([below(piece, 0, 1, 0), hangs_on(piece, 0, 1, 0)], [[0, 1], [[0], [0, 1]]])
        piece = ring((4, 0), part([CABLE]), part([K, CDD]), part([TOG]))
        self.assertEqual([above(piece, 0, 0, 0), hangs_on(piece, 0, 2, 0)], [[0, 1], [[0], [0, 1], [0]]])
        piece = ring((3, 0), part([K, KFB, KFB]), part([K, CABLE]))
        self.assertEqual([below(piece, 0, 1, 0), below(piece, 0, 1, 1)], [[0], [1, 2]])

    def test_cells_that_take_or_make_nothing(self):
        piece = ring((4, 0), part([K, YO, K, BO, K]), part([K, K, TOG]))
        self.assertEqual([below(piece, 0, 1, place) for place in range(3)], [[0], [1], [2, 4]])
        self.assertEqual([above(piece, 0, 0, place) for place in range(5)], [[0], [1], [2], [], [2]])
        self.assertEqual([below(piece, 0, 0, place) for place in range(5)], [[], [], [], [], []])
        self.assertEqual([above(piece, 0, 1, place) for place in range(3)], [[], [], []])
        # A cell that takes nothing hangs on nothing, though rows are below it.
        piece = ring((2, 0), part((), [K]), part([K, YO, K]), part([K, BO, K]))
        self.assertEqual(below(piece, 0, 1, 1), [])
        self.assertEqual(hangs_on(piece, 0, 1, 1), [[1], []])
        self.assertEqual(hangs_on(piece, 0, 2, 1), [[1], [1], []])
        self.assertEqual([above(piece, 0, 1, 1), above(piece, 0, 2, 1)], [[1], []])
        # Behind bound off cells places are left out.
        piece = ring((5, 0), part((), [K]), part([K, BO, BO, K, K]), part([TOG, K]))
        self.assertEqual(hangs_on(piece, 0, 2, 0), [[0], [0, 3], [0, 3]])

    def test_crossed_cells(self):
        piece = ring((6, 0), part((), [K]), part([CABLE, ("c2b", "a")]), part((), [K]))
        self.assertEqual([below(piece, 0, 1, place) for place in (0, 1)], [[0, 1, 2, 3], [4, 5]])
        self.assertEqual([above(piece, 0, 1, place) for place in (0, 1)], [[0, 1, 2, 3], [4, 5]])
        self.assertEqual(hangs_on(piece, 0, 2, 3), [[3], [0], [0, 1, 2, 3]])
        piece = ring((4, 0), part([("c2f", "a")] * 2), part([K, ("c2f", "a"), K]))
        self.assertEqual([below(piece, 0, 1, place) for place in range(3)], [[0], [0, 1], [1]])

    def test_flat_rows_are_seen_from_the_right_side(self):
        rows = part((), [K]), part([("p2tog", "a")], [P])
        self.assertEqual([below(flat((4, 0), *rows), 0, 1, place) for place in range(3)], [[0], [1], [2, 3]])
        self.assertEqual([below(ring((4, 0), *rows), 0, 1, place) for place in range(3)], [[0, 1], [2], [3]])

    def test_undone(self):
        piece = ring((3, 1), part((), [K]), part([K, YO, TOG], [K]))
        self.assertEqual([undone(piece, 0, loop) for loop in range(3)], [[[0], [0]], [[1], []], [[2], [1, 2]]])
        self.assertEqual(undone(piece, 2, 4), [[4], [4]])
        piece = ring((2, 0), part([KFB, BO]))
        self.assertEqual([undone(piece, 0, loop) for loop in range(2)], [[[0]], [[0]]])
        self.refused(NoCell, undone, piece, 0, 2)

    def test_blocks_and_great_sizes(self):
        piece = ring((3, 0), block((0, 1), PLAIN))
        self.assertEqual(hangs_on(piece, 200, 199, 2), [[2]] * 200)
        self.assertEqual(undone(piece, 1000, 1), [[1]] * 1000)
        self.assertEqual([above(piece, 200, 100, 1), below(piece, 200, 100, 1)], [[1], [1]])

    def test_against_the_loops_of_small_pieces(self):
        random = dice(221)
        some = 0
        for _ in range(250):
            piece = random.choice([random_piece, plain_piece])(random)
            for size in out_sizes(piece).first(2):
                looks = cloth_at(piece, size)
                if sum(map(len, looks)) > 150:
                    continue
                pairs = hung(looks)
                for number, look in enumerate(looks):
                    for place in range(len(look)):
                        some += 1
                        cells = all_below(pairs, number, place)
                        self.assertEqual(hangs_on(piece, size, number, place), cells)
                        self.assertEqual(below(piece, size, number, place), cells[1] if number else [])
                        ups = sorted(here[1] for here, there in pairs if there == (number, place))
                        self.assertEqual(above(piece, size, number, place), ups)
                self.check_undone(piece, size, looks, pairs)
        self.assertGreater(some, 3000)

    def check_undone(self, piece, size, looks, pairs):
        loops = knit(piece, size)[1]
        if looks:
            makers = [place for place, (kind, _) in enumerate(looks[-1]) for _ in range(KINDS[kind][1])]
            self.assertEqual(len(makers), loops)
            for loop, place in enumerate(makers):
                self.assertEqual(undone(piece, size, loop), all_below(pairs, len(looks) - 1, place))
        for loop in (loops, loops + 1) if looks else (0, 1):
            self.refused(NoCell, undone, piece, size, loop)

    def refused(self, error, function, *arguments):
        with self.assertRaises(error) as caught:
            function(*arguments)
        return caught.exception

    def test_rows_places_and_loops_that_are_none(self):
        piece = ring((4, 0), part((), [K]), part([TOG], [K]), part([K, K, K]))
        for function in (below, above, hangs_on):
            for row_told, many in [(0, 4), (1, 3), (2, 3)]:
                function(piece, 0, row_told, many - 1)
                for place in [many, many + 1, 10 ** 20, -1] + ODD_THINGS:
                    self.refused(NoCell, function, piece, 0, row_told, place)
            for number in [3, 4, 10 ** 20, -1] + ODD_THINGS:
                self.refused(NoCell, function, piece, 0, number, 0)
        for loop in [3, 4, 10 ** 20, -1] + ODD_THINGS:
            self.refused(NoCell, undone, piece, 0, loop)

    def test_without_rows_or_cells(self):
        for piece in (ring((4, 0)), ring((4, 0), block((0, 0), PLAIN))):
            self.refused(NoCell, undone, piece, 0, 0)
            for function in (below, above, hangs_on):
                self.refused(NoCell, function, piece, 0, 0, 0)
        self.refused(NoCell, hangs_on, ring((0, 0), part()), 0, 0, 0)
        self.refused(NoCell, undone, ring((0, 0), part()), 0, 0)

    def test_which_of_several_errors(self):
        piece = ring((4, 1), block((0, 1), PLAIN), part((), [K, K]))
        calls = [(below, (9, 9)), (above, (None, 9)), (hangs_on, (9, True)), (undone, (-1,))]
        for function, places in calls:
            for size in [-1, True, None, 1.0, "1"]:
                self.refused(BadSize, function, piece, size, *places)
            found = self.refused(NotOut, function, piece, 3, *places)
            self.assertEqual((found.row, found.why), (3, "parts"))
            self.refused(TooLong, function, piece, 10 ** 6, *places)
            self.refused(NoCell, function, piece, 2, *places)
            self.assertEqual(self.refused(NotOut, function, piece, 10 ** 30 + 1, *places).why, "parts")

    def test_too_many_rows_and_cells(self):
        # 100000 rows and cells together, and more.
        piece = ring((1, 0), block((0, 1), PLAIN))
        self.assertEqual(len(hangs_on(piece, 50000, 49999, 0)), 50000)
        wide = ring((0, 1), part((), [K]))
        self.assertEqual(below(wide, 99999, 0, 99998), [])
        for function, places in [(below, (0, 0)), (above, (0, 0)), (hangs_on, (0, 0)), (undone, (0,))]:
            self.refused(TooLong, function, piece, 50001, *places)
            self.refused(TooLong, function, wide, 100000, *places)

    def test_returned_lists_are_new(self):
        piece = ring((4, 0), part((), [K]), part([TOG], [K]))
        for call in [lambda: hangs_on(piece, 0, 1, 0), lambda: undone(piece, 0, 0)]:
            found = call()
            found[1].append(7)
            found.pop(0)
            self.assertEqual(call(), [[0], [0, 1]])
        below(piece, 0, 1, 0).append(9)
        self.assertEqual(below(piece, 0, 1, 0), [0, 1])


class TestWhereClosed(unittest.TestCase):
    def check(self, piece, end=40):
        found = where_closed(piece)
        self.assertIsInstance(found, Sizes)
        for size in range(end):
            _, loops, why = knit(piece, size)
            self.assertEqual(size in found, why is None and loops == 0, (piece.cast, piece.parts, size))
        return found

    def test_at_all_sizes_or_none(self):
        self.assertEqual(self.check(flat((4, 1), part((), [BO]))), ALL)
        self.assertEqual(self.check(flat((4, 1), part((), [K]))), NONE)
        self.assertEqual(self.check(flat((0, 0))), ALL)
        self.assertEqual(self.check(flat((0, 0), part())), ALL)
        self.assertEqual(self.check(flat((4, 1), part((), [BO]), part([YO]))), NONE)

    def test_at_some(self):
        self.assertEqual(told(self.check(flat((4, 2), part((), [K, K, K]), part((), [BO])))), ((), 0, 3, (1,)))
        self.assertEqual(told(self.check(flat((9, -2), part((), [BO])))), ((0, 1, 2, 3, 4), 5, 1, ()))
        self.assertEqual(told(self.check(flat((9, 0), block((0, 1), row([BO], [K]))))), ((9,), 10, 1, ()))
        self.assertEqual(self.check(flat((9, 0), block((0, 2), row([BO], [K])))), NONE)
        self.assertEqual(told(self.check(flat((8, 0), block((0, 2), row([BO], [K]))))), ((4,), 5, 1, ()))
        self.assertEqual(told(self.check(flat((0, 1)))), ((0,), 1, 1, ()))
        self.assertEqual(self.check(flat((-1, 1), block((3, -3), PLAIN), part((), [K]))), Sizes((1,), 2, 1, ()))
        self.assertEqual(told(self.check(flat((9, -1)))), ((9,), 10, 1, ()))
        self.assertEqual(told(self.check(flat((0, 1), block((-3, 1), row([K, K, K])), part((), [BO])))),
                         ((3,), 4, 1, ()))

    def test_against_knitting(self):
        random = dice(222)
        some = 0
        for _ in range(400):
            piece = random_piece(random)
            if random.random() < 0.5 and len(piece.parts) < 40:
                piece = Piece(piece.way, piece.cast, piece.parts + (part((), [BO]),))
            some += bool(self.check(piece, 25))
        self.assertGreater(some, 100)

    def test_great_sizes(self):
        self.assertEqual(told(where_closed(flat((99, 0), *[block((99, 0), row([YO] * 9, [K]))] * 9,
                                                block((0, 1), row([BO], [K]))))), ((8118,), 8119, 1, ()))


if __name__ == "__main__":
    unittest.main()
