import types
import unittest

from allstitches.counting import out_sizes, trouble
from allstitches.edits import edited, edited_all
from allstitches.errors import StitchError, TooLong
from allstitches.faults import BadCount, BadEdge, BadEdit, BadName, NoEdit, NoPiece, NothingDone
from allstitches.garments import Garment, is_name
from allstitches.pieces import Piece, measure_of
from allstitches.reading import read_piece
from allstitches.sameness import Verdict, compare
from allstitches.seams import where_all, where_seam
from allstitches.sizes import Sizes
from allstitches.yarn import Amount, amount
from tests.pairs import plain_piece
from tests.things import CABLE, K, ODD_THINGS, P, block, dice, edge_at, flat, part, random_piece, ring, row, told

ALL = Sizes((), 0, 1, (0,))
NONE = Sizes((), 0, 1, ())
ONE, TWO = row([], [K]), row([], [P])
BACK = flat((6, 2), part((), [K, P]))
SLEEVE = flat((4, 3), part((), [K]))
CUFF = ring((8, 1), block((2, 1), ONE, TWO), part((), [P]))
# Measures 60, 56 and 88: the first two have just 840 in common, the first and the last one 1320.
WIDE = ring((0, 1), part((), [CABLE] * 15))
SEVEN = ring((0, 1), part((), [K] * 7), block((0, 0), *[ONE] * 4))
ELEVEN = ring((0, 1), part((), [K] * 11), block((0, 0), *[ONE] * 4))
NO_NAMES = ["", "1", "1a", "A", "aB", "a b", "a_b", "a-b", " a", "a ", "a\n", "\xe4", "a\xe9", "a\u0661", "abcdefghijklm",
            "x" * 13, "a.", "\u0430"] + [thing for thing in ODD_THINGS if thing not in ("kk", "row")]
NAMES = ["a", "z", "a1", "z9", "x0", "abcdefghijkl", "a12345678901", "back", "selfish", "def", "row"]


def same(one, two):
    return (one.way, one.cast, one.parts) == (two.way, two.cast, two.parts)


def state(garment):
    """All that a garment tells of what it is; what was done is told by undoing it all in a draft."""
    undone = []
    try:
        with garment.draft():
            for name in garment.names:
                while True:
                    try:
                        undone.append((name, garment.undo(name), looks_of(garment[name])))
                    except NothingDone:
                        break
            raise StopAsyncIteration
    except StopAsyncIteration:
        pass
    return (garment.names, [(name, looks_of(piece)) for name, piece in garment.pairs()], garment.seams, undone)


def looks_of(piece):
    return (piece.way, piece.cast, piece.parts)


class Case(unittest.TestCase):
    def refused(self, error, garment, function, *arguments):
        """A call that is refused changes nothing."""
        before = state(garment)
        with self.assertRaises(error) as caught:
            function(*arguments)
        self.assertIs(type(caught.exception), error)
        self.assertEqual(state(garment), before)
        return caught.exception

    def setUp(self):
        self.garment = Garment(back=BACK, sleeve=SLEEVE, cuff=CUFF)


class TestNames(Case):
    def test_is_name(self):
        for name in NAMES:
            self.assertIs(is_name(name), True, name)
        for thing in NO_NAMES:
            self.assertIs(is_name(thing), False, thing)
        self.assertIs(is_name("self"), True)

    def test_setting(self):
        for name in NAMES:
            garment = Garment()
            garment[name] = BACK
            self.assertTrue(same(garment[name], BACK))
            self.assertEqual((garment.names, len(garment), name in garment), ([name], 1, True))
            self.assertEqual(Garment(**{name: BACK}).names, [name])
        for name in NO_NAMES:
            garment = Garment(back=BACK)
            found = self.refused(BadName, garment, garment.__setitem__, name, SLEEVE)
            self.assertIs(found.name, name)

    def test_what_is_no_piece(self):
        for thing in [("flat", (4, 1), ()), "flat on 4"] + ODD_THINGS:
            for name in ("back", "hat"):
                found = self.refused(BadName, self.garment, self.garment.__setitem__, name, thing)
                self.assertEqual(found.name, name)
        with self.assertRaises(BadName) as caught:
            Garment(back=BACK, hat=None, Cuff=5)
        self.assertEqual(caught.exception.name, "hat")

    def test_of_several_wrong_names_the_first_one(self):
        for pieces, name in [({"A": BACK}, "A"), ({"b": BACK, "B": BACK, "A": BACK}, "B"), ({"z": 1, "A": 1}, "z")]:
            with self.assertRaises(BadName) as caught:
                Garment(**pieces)
            self.assertEqual(caught.exception.name, name)

    def test_12_pieces_and_13(self):
        self.assertEqual(Garment.MOST, 12)
        names = [f"p{number}" for number in range(12)]
        garment = Garment(**{name: BACK for name in names})
        self.assertEqual(len(garment), 12)
        self.assertEqual(self.refused(BadName, garment, garment.__setitem__, "more", BACK).name, "more")
        garment["p3"] = SLEEVE
        self.assertTrue(same(garment["p3"], SLEEVE))
        with self.assertRaises(BadName) as caught:
            Garment(**{name: BACK for name in names + ["b", "a"]})
        self.assertEqual(caught.exception.name, "b")

    def test_getting(self):
        self.assertTrue(same(self.garment["back"], BACK))
        for name in ["Back", "bac", "hat", "self"] + ODD_THINGS:
            found = self.refused(NoPiece, self.garment, self.garment.__getitem__, name)
            self.assertIs(found.name, name)
            self.assertIs(name in self.garment, False)
        self.assertIs("back" in self.garment, True)

    def test_names_and_pairs_ascend(self):
        garment = Garment(z=BACK, a=SLEEVE, m=CUFF, a1=BACK)
        self.assertEqual(garment.names, ["a", "a1", "m", "z"])
        self.assertIsInstance(garment.pairs(), types.GeneratorType)
        found = list(garment.pairs())
        self.assertEqual([name for name, _ in found], garment.names)
        self.assertTrue(all(same(piece, garment[name]) for name, piece in found))
        self.assertEqual(list(Garment().pairs()), [])
        self.assertEqual((Garment().names, len(Garment()), Garment().seams), ([], 0, ()))

    def test_what_is_returned_does_not_hang_on_the_garment(self):
        self.garment.names.append("hat")
        self.assertEqual(self.garment.names, ["back", "cuff", "sleeve"])
        piece = self.garment["back"]
        piece.cast = (99, 0)
        piece.parts = ()
        self.assertTrue(same(self.garment["back"], BACK))
        for _, piece in self.garment.pairs():
            piece.cast = (99, 0)
        self.assertTrue(same(self.garment["cuff"], CUFF))

    def test_what_was_given_is_copied(self):
        piece = flat((6, 2), part((), [K, P]))
        garment = Garment(back=piece)
        garment["front"] = piece
        piece.cast = (1, 0)
        self.assertTrue(same(garment["back"], BACK) and same(garment["front"], BACK))
        pieces = {"back": BACK}
        garment = Garment(**pieces)
        pieces["front"] = SLEEVE
        garment["cuff"] = CUFF
        self.assertEqual((garment.names, list(pieces)), (["back", "cuff"], ["back", "front"]))

    def test_it_is_not_gone_through(self):
        with self.assertRaises(TypeError):
            list(self.garment)


class TestSeams(Case):
    def test_example(self):
        garment = Garment(back=read_piece("flat on 6 + 2 s\nrow *k, p*\n"),
                          sleeve=read_piece("flat on 4 + 3 s\nrow *k*\n"))
        self.assertEqual([garment.sew("back", "end", "sleeve", "cast").first(3), garment.out().many,
                          garment.hindering(3)], [[2], 1, ([], [0])])
        self.assertEqual([bool(garment.edit("back", ("drop", 0))), bool(garment.edit("back", ("alike", 0, 0, 0))),
                          garment.undo("back")], [False, True, (('alike', 0, 0, 0),)])

    def test_sew_and_unpick(self):
        garment = self.garment
        seams = [("back", "end", "sleeve", "cast"), ("cuff", "side", "back", "cast"), ("sleeve", "end", "sleeve", "side"),
                 ("back", "end", "sleeve", "cast")]
        for many, seam in enumerate(seams):
            found = garment.sew(*seam)
            self.assertEqual(found, where_seam(garment[seam[0]], seam[1], garment[seam[2]], seam[3]))
            self.assertEqual(garment.seams, tuple(seams[:many + 1]))
            self.assertIsInstance(garment.seams, tuple)
        while seams:
            self.assertEqual(garment.unpick(), seams.pop())
            self.assertEqual(garment.seams, tuple(seams))
        self.refused(NothingDone, garment, garment.unpick)
        garment.sew("back", "end", "back", "cast")
        self.assertEqual(garment.unpick(), ("back", "end", "back", "cast"))

    def test_wrong_seams(self):
        garment = Garment(wide=WIDE, eleven=ELEVEN, seven=SEVEN)
        garment.sew("wide", "end", "seven", "cast")
        for thing in ["hat", "Wide"] + ODD_THINGS:
            for edge in ("end", "top"):
                for names, first in [((thing, "seven"), thing), (("wide", thing), thing), ((thing, "hut"), thing),
                                     (("hut", thing), "hut")]:
                    found = self.refused(NoPiece, garment, garment.sew, names[0], edge, names[1], "cast")
                    self.assertIs(found.name, first)
        for edge in ["top", "Cast", ""] + ODD_THINGS:
            self.refused(BadEdge, garment, garment.sew, "wide", edge, "eleven", "cast")
            self.refused(BadEdge, garment, garment.sew, "wide", "end", "eleven", edge)
        self.refused(TooLong, garment, garment.sew, "wide", "end", "eleven", "cast")
        self.assertEqual(len(garment.seams), 1)

    def test_out(self):
        self.assertEqual(Garment().out(), ALL)
        self.assertEqual(Garment(back=BACK).out(), ALL)
        self.assertEqual(Garment(hat=flat((3, 1), part((), [K] * 3))).out(), Sizes((), 0, 3, (0,)))
        two = Garment(hat=flat((3, 1), part((), [K] * 3)), cap=flat((3, 1), part((), [K] * 4)))
        self.assertEqual(told(two.out()), ((), 0, 12, (9,)))
        two["end"] = flat((30, -1), part((), [K]))
        self.assertEqual(told(two.out()), ((9, 21), 22, 1, ()))
        two["none"] = flat((-1, 0))
        self.assertEqual(two.out(), NONE)

    def test_out_with_seams(self):
        garment = self.garment
        self.assertEqual(garment.out(), ALL)
        garment.sew("back", "end", "back", "cast")
        self.assertEqual(garment.out(), ALL)
        garment.sew("back", "end", "sleeve", "cast")
        self.assertEqual(told(garment.out()), ((2,), 3, 1, ()))
        garment.sew("cuff", "cast", "sleeve", "end")
        self.assertEqual(told(garment.out()), ((2,), 3, 1, ()))
        garment.sew("cuff", "cast", "sleeve", "side")
        self.assertEqual(garment.out(), NONE)
        garment.unpick()
        garment["other"] = flat((4, 1), part((), [K] * 4))
        self.assertEqual(garment.out(), NONE)
        garment["other"] = flat((4, 1), part((), [K] * 3))
        self.assertEqual(told(garment.out()), ((2,), 3, 1, ()))

    def test_measures(self):
        garment = Garment(wide=WIDE, seven=SEVEN)
        self.assertEqual([measure_of(piece.parts) for piece in (WIDE, SEVEN, ELEVEN)], [60, 56, 88])
        self.assertEqual(told(garment.out()), ((), 0, 420, (0,)))
        self.assertEqual(garment.hindering(7), (["wide"], []))
        garment["eleven"] = ELEVEN
        self.refused(TooLong, garment, garment.out)
        self.refused(TooLong, garment, garment.hindering, 7)
        garment.sew("seven", "end", "eleven", "cast")
        self.refused(TooLong, garment, garment.out)

    def test_hindering(self):
        garment = Garment(hat=flat((3, 1), part((), [K] * 3)), cap=flat((3, 1), part((), [K] * 4)), back=BACK)
        self.assertEqual(garment.hindering(9), ([], []))
        self.assertEqual(garment.hindering(0), (["cap"], []))
        self.assertEqual(garment.hindering(1), (["hat"], []))
        self.assertEqual(garment.hindering(2), (["cap", "hat"], []))
        for seam in [("hat", "end", "cap", "cast"), ("back", "end", "hat", "cast"), ("back", "end", "back", "cast"),
                     ("back", "cast", "back", "side")]:
            garment.sew(*seam)
        self.assertEqual(garment.hindering(9), ([], [1, 3]))
        self.assertEqual(garment.hindering(0), (["cap"], [0, 1, 3]))
        self.assertEqual(garment.hindering(1), (["hat"], [0, 1, 3]))
        self.assertEqual(garment.hindering(10 ** 30), (garment.hindering(10 ** 30)[0], [0, 1, 3]))
        found = garment.hindering(9)
        found[0].append("x")
        found[1].clear()
        self.assertEqual(garment.hindering(9), ([], [1, 3]))
        self.assertEqual(Garment().hindering(5), ([], []))

    def test_against_the_seams_one_by_one(self):
        random = dice(271)
        some = 0
        for _ in range(300):
            make = random.choice([random_piece, plain_piece])
            one, two = make(random), make(random)
            two = Piece(two.way, random.choice([one.cast, two.cast]), two.parts)
            garment = Garment(a=one, b=two, c=random.choice([one, two]))
            seams = []
            for _ in range(random.randint(0, 2)):
                seam = (random.choice("abc"), random.choice(["cast", "end", "side"]), random.choice("abc"),
                        random.choice(["cast", "end", "side"]))
                try:
                    garment.sew(*seam)
                except TooLong:
                    continue
                seams.append(seam)
            try:
                found = garment.out()
            except TooLong:
                continue
            common = where_all([(garment[one], edge, garment[other], there) for one, edge, other, there in seams])
            for _, piece in garment.pairs():
                common = common & out_sizes(piece)
            self.assertEqual(found, common)
            some += bool(found) and bool(seams)
            for size in range(8):
                names, places = garment.hindering(size)
                self.assertEqual(names, [name for name in "abc" if trouble(garment[name], size) is not None])
                edges = [(edge_at(garment[one], edge, size), edge_at(garment[other], there, size))
                         for one, edge, other, there in seams]
                self.assertEqual(places, [place for place, (here, there) in enumerate(edges)
                                          if here is None or here != there])
                self.assertEqual(size in found, not names and not places)
        self.assertGreater(some, 15)

    def test_a_piece_replaced(self):
        garment = self.garment
        garment.sew("back", "end", "sleeve", "cast")
        garment["sleeve"] = flat((6, 2))
        self.assertEqual((len(garment), garment.seams), (3, (("back", "end", "sleeve", "cast"),)))
        self.assertEqual(garment.out(), ALL)
        self.assertEqual(garment.hindering(3), ([], []))


class TestEdits(Case):
    def test_edits_that_keep_the_cloth(self):
        garment = self.garment
        found = garment.edit("cuff", ("first", 0), ("split", 2, (0, 0)))
        self.assertIsInstance(found, Verdict)
        self.assertEqual((found.is_same, found.size, found.row, found.kind), (True, None, None, ""))
        self.assertTrue(same(garment["cuff"], edited_all(CUFF, [("first", 0), ("split", 2, (0, 0))])))
        self.assertEqual(garment["cuff"].parts[0], ("row", ONE))
        self.assertTrue(same(garment["back"], BACK))

    def test_edits_that_do_not(self):
        garment = self.garment
        garment.edit("cuff", ("last", 0))
        before = state(garment)
        for edits, verdict in [([("drop", 1)], (0, 2, "look")), ([("split", 0, (5, 0))], (0, None, "out")),
                               ([("first", 0), ("drop", 0)], None), ([("swap", 1), ("alike", 0, 0, 0)], None)]:
            found = garment.edit("cuff", *edits)
            one, two = garment["cuff"], edited_all(garment["cuff"], edits)
            right = compare(one, two)
            self.assertEqual((found.is_same, found.size, found.row, found.kind), (False, right.size, right.row, right.kind))
            self.assertEqual(state(garment), before)
            if verdict is not None:
                self.assertEqual((found.size, found.row, found.kind), verdict)

    def test_edits_that_keep_it_only_together(self):
        garment = Garment(hat=ring((4, 1), part((), [K]), part((), [P]), part((), [K])))
        self.assertFalse(garment.edit("hat", ("swap", 0)))
        self.assertTrue(garment.edit("hat", ("swap", 0), ("swap", 1), ("swap", 0), ("swap", 1), ("swap", 0), ("swap", 1)))
        self.assertTrue(garment.edit("hat", ("swap", 0), ("swap", 0)))
        self.assertEqual(len(garment.undo("hat")), 2)
        self.assertEqual(len(garment.undo("hat")), 6)

    def test_none(self):
        garment = self.garment
        before = state(garment)
        found = garment.edit("cuff")
        self.assertEqual((found.is_same, found.kind), (True, ""))
        self.assertEqual(state(garment), before)
        self.refused(NothingDone, garment, garment.undo, "cuff")
        garment.edit("cuff", ("first", 0))
        garment.edit("cuff")
        self.assertEqual(garment.undo("cuff"), (("first", 0),))

    def test_wrong_edits(self):
        garment = self.garment
        garment.edit("cuff", ("last", 0))
        for name in ["hat", "Cuff"] + ODD_THINGS:
            self.assertIs(self.refused(NoPiece, garment, garment.edit, name, None).name, name)
            self.assertIs(self.refused(NoPiece, garment, garment.edit, name).name, name)
            self.assertIs(self.refused(NoPiece, garment, garment.undo, name).name, name)
        # No edit behind ones that can't be made.
        for edits in [[()], [None], [("drop", 9), ("drop",)], [("first", 0), ("drop", 9), ["drop", 0]],
                      [("first", 0), ("nothing", 0)]] + [[("drop", 9), thing] for thing in ODD_THINGS]:
            self.refused(BadEdit, garment, garment.edit, "cuff", *edits)
        for edits, kind in [([("drop", 9)], "drop"), ([("first", 0), ("merge", 0), ("drop", 9)], "merge"),
                            ([("first", 0), ("first", 0)], "first"), ([("alike", 0, 0, 1)], "alike")]:
            self.assertEqual(self.refused(NoEdit, garment, garment.edit, "cuff", *edits).kind, kind)

    def test_too_long(self):
        # A measure of 116, and of 32 behind the edits.
        wide = ring((0, 1), block((0, 0), row([], [K] * 29)), block((16, 0), ONE))
        garment = Garment(wide=wide)
        edits = [("drop", 0)] + [("double", 0)] * 4
        self.assertEqual([measure_of(piece.parts) for piece in (wide, edited_all(wide, edits))], [116, 32])
        self.refused(TooLong, garment, garment.edit, "wide", *edits)
        self.assertTrue(garment.edit("wide", *edits[:4]))
        # A wrong one behind them comes first.
        garment["wide"] = wide
        self.refused(NoEdit, garment, garment.edit, "wide", *edits, ("drop", 5))
        self.refused(BadEdit, garment, garment.edit, "wide", *edits, ("drop",))


class TestUndo(Case):
    def test_the_last_and_several(self):
        garment = self.garment
        calls = [(("first", 0),), (("alike", 0, 0, 0), ("split", 2, (0, 0))), (("last", 3),)]
        pieces = [garment["cuff"]]
        for edits in calls:
            self.assertTrue(garment.edit("cuff", *edits))
            pieces.append(garment["cuff"])
        garment.edit("back", ("alike", 0, 0, 0))
        while calls:
            self.assertTrue(same(garment["cuff"], pieces.pop()))
            self.assertEqual(garment.undo("cuff"), calls.pop())
            self.assertTrue(same(garment["cuff"], pieces[-1]))
        self.refused(NothingDone, garment, garment.undo, "cuff")
        self.assertEqual(garment.undo("back"), (("alike", 0, 0, 0),))
        self.refused(NothingDone, garment, garment.undo, "back")
        self.assertEqual(state(garment), state(Garment(back=BACK, sleeve=SLEEVE, cuff=CUFF)))

    def test_what_was_undone_is_not_undone_again(self):
        garment = self.garment
        garment.edit("cuff", ("first", 0))
        garment.edit("cuff", ("last", 2))
        garment.undo("cuff")
        garment.edit("cuff", ("split", 2, (0, 0)))
        self.assertEqual([garment.undo("cuff"), garment.undo("cuff")], [(("split", 2, (0, 0)),), (("first", 0),)])
        self.assertTrue(same(garment["cuff"], CUFF))

    def test_behind_a_replaced_piece(self):
        garment = self.garment
        garment.edit("cuff", ("first", 0))
        garment.edit("back", ("alike", 0, 0, 0))
        garment["cuff"] = SLEEVE
        self.refused(NothingDone, garment, garment.undo, "cuff")
        garment.edit("cuff", ("alike", 0, 0, 0))
        self.assertEqual(garment.undo("cuff"), (("alike", 0, 0, 0),))
        self.assertTrue(same(garment["cuff"], SLEEVE))
        self.assertEqual(garment.undo("back"), (("alike", 0, 0, 0),))

    def test_replaced_by_itself(self):
        garment = self.garment
        garment.edit("cuff", ("first", 0))
        garment["cuff"] = garment["cuff"]
        self.refused(NothingDone, garment, garment.undo, "cuff")
        self.assertEqual(len(garment["cuff"].parts), 4)


class TestCells(Case):
    def test_sums(self):
        garment = self.garment
        for what in ["all", ("kind", "k"), ("yarn", "a"), ("yarn", "q")]:
            found = garment.cells(what)
            self.assertIsInstance(found, Amount)
            right = amount(BACK, what).plus(amount(SLEEVE, what)).plus(amount(CUFF, what))
            self.assertEqual(found.told(), right.told())
        self.assertEqual(Garment().cells("all").told(), (0, 0, 0, 1))
        self.assertEqual(Garment(a=BACK, b=BACK).cells("all").told(), (12, 4, 0, 1))

    def test_what_can_not_be_counted(self):
        for what in ["none", ("kind", "x"), ("yarn", "A"), ("all",)] + ODD_THINGS:
            for garment in (self.garment, Garment()):
                self.refused(BadCount, garment, garment.cells, what)


class TestDrafts(Case):
    def work(self, garment):
        garment.sew("back", "end", "sleeve", "cast")
        garment.edit("cuff", ("first", 0))
        garment.edit("cuff", ("last", 2))
        garment.undo("cuff")
        garment["hat"] = BACK
        garment["sleeve"] = CUFF

    def test_a_draft_that_ends_well(self):
        garment = self.garment
        with garment.draft() as one:
            self.assertIs(one, garment)
            self.work(one)
        other = Garment(back=BACK, sleeve=SLEEVE, cuff=CUFF)
        self.work(other)
        self.assertEqual(state(garment), state(other))
        self.assertEqual(garment.names, ["back", "cuff", "hat", "sleeve"])

    def test_a_draft_that_ends_by_an_error(self):
        garment = self.garment
        garment.sew("back", "cast", "back", "end")
        garment.edit("cuff", ("split", 0, (2, 1)))
        before = state(garment)
        for error in (ValueError, KeyError, KeyboardInterrupt, StitchError, NothingDone):
            with self.assertRaises(error):
                with garment.draft() as one:
                    self.work(one)
                    one.undo("cuff")
                    one.undo("cuff")
                    one.unpick()
                    one.unpick()
                    raise error("x")
            self.assertEqual(state(garment), before)
            self.assertEqual(garment.names, ["back", "cuff", "sleeve"])
        with self.assertRaises(NothingDone):
            with garment.draft():
                while True:
                    garment.unpick()
        self.assertEqual(state(garment), before)
        self.assertEqual(garment.undo("cuff"), (("split", 0, (2, 1)),))
        self.assertEqual(len(garment.seams), 1)

    def test_its_beginning(self):
        # What is done between the call and the with statement stays.
        garment = self.garment
        draft = garment.draft()
        garment.edit("cuff", ("first", 0))
        before = state(garment)
        with self.assertRaises(ZeroDivisionError):
            with draft as one:
                one.undo("cuff")
                one["back"] = CUFF
                1 / 0
        self.assertEqual(state(garment), before)

    def test_drafts_within_drafts(self):
        garment = self.garment
        before = state(garment)
        with self.assertRaises(IndexError):
            with garment.draft() as outer:
                outer.edit("cuff", ("first", 0))
                middle = state(outer)
                with self.assertRaises(KeyError):
                    with outer.draft() as inner:
                        inner.edit("cuff", ("last", 2))
                        inner["hat"] = BACK
                        raise KeyError("x")
                self.assertEqual(state(garment), middle)
                with outer.draft() as inner:
                    inner["hat"] = BACK
                self.assertEqual(len(garment), 4)
                raise IndexError
        self.assertEqual(state(garment), before)
        with garment.draft():
            with self.assertRaises(KeyError):
                with garment.draft():
                    with garment.draft():
                        self.work(garment)
                    raise KeyError("x")
            garment.edit("cuff", ("first", 0))
        self.assertEqual(garment.undo("cuff"), (("first", 0),))
        self.assertEqual(state(garment), before)

    def test_several_drafts_one_behind_the_other(self):
        garment = self.garment
        for turn in range(3):
            with self.assertRaises(KeyError):
                with garment.draft() as one:
                    one.edit("cuff", ("first", 0))
                    raise KeyError("x")
            with garment.draft() as one:
                one.sew("back", "end", "back", "cast")
            self.assertEqual((len(garment.seams), len(garment["cuff"].parts)), (turn + 1, 2))

    def test_attempt(self):
        garment = self.garment
        calls = []

        def deed(one):
            calls.append(one)
            self.work(one)
            return [one, "done"]

        self.assertEqual(garment.attempt(deed), [garment, "done"])
        self.assertIs(calls[0], garment)
        self.assertIn("hat", garment)
        self.assertIsNone(garment.attempt(lambda one: None))
        before = state(garment)

        def fails(one):
            one["other"] = BACK
            one.sew("other", "end", "back", "cast")
            one.edit("cuff", ("drop", 77))

        with self.assertRaises(NoEdit) as caught:
            garment.attempt(fails)
        self.assertEqual(caught.exception.kind, "drop")
        self.assertEqual(state(garment), before)
        with self.assertRaises(ZeroDivisionError):
            garment.attempt(lambda one: 1 / 0)

    def test_a_refused_call_in_a_draft_that_is_caught(self):
        garment = self.garment
        with garment.draft() as one:
            one.edit("cuff", ("first", 0))
            with self.assertRaises(NoPiece):
                one.sew("hat", "end", "back", "cast")
        self.assertEqual(garment.undo("cuff"), (("first", 0),))


class TestJoined(Case):
    def test_pieces_and_seams(self):
        one = Garment(b=BACK, a=SLEEVE)
        one.sew("a", "end", "b", "cast")
        two = Garment(c=CUFF, d=BACK)
        two.sew("d", "end", "c", "cast")
        two.sew("c", "side", "c", "side")
        found = Garment.joined(one, two)
        self.assertIsInstance(found, Garment)
        self.assertEqual(found.names, ["a", "b", "c", "d"])
        self.assertEqual(found.seams, one.seams + two.seams)
        self.assertTrue(same(found["c"], CUFF))
        self.assertEqual(Garment.joined(two, one).seams, two.seams + one.seams)
        self.assertEqual(found.out(), one.out() & two.out())

    def test_none_and_one(self):
        self.assertEqual(state(Garment.joined()), state(Garment()))
        self.assertEqual(state(Garment.joined(self.garment)), state(self.garment))

    def test_the_same_name_in_two_of_them(self):
        one, two = Garment(a=BACK, b=BACK), Garment(b=CUFF, c=CUFF)
        one.sew("a", "end", "b", "cast")
        self.assertTrue(same(Garment.joined(one, two)["b"], CUFF))
        self.assertTrue(same(Garment.joined(two, one)["b"], BACK))
        self.assertEqual(Garment.joined(one, two).seams, (("a", "end", "b", "cast"),))
        self.assertEqual(Garment.joined(one, one).seams, one.seams * 2)

    def test_it_is_new(self):
        one = Garment(cuff=CUFF)
        one.edit("cuff", ("first", 0))
        found = Garment.joined(one)
        self.refused(NothingDone, found, found.undo, "cuff")
        found["cuff"] = BACK
        found["hat"] = BACK
        found.sew("hat", "end", "cuff", "cast")
        self.assertEqual((one.names, one.seams), (["cuff"], ()))
        self.assertEqual(one.undo("cuff"), (("first", 0),))

    def test_too_many_pieces(self):
        one = Garment(**{f"a{number}": BACK for number in range(7)})
        two = Garment(**{f"b{number}": BACK for number in range(5)})
        self.assertEqual(len(Garment.joined(one, two, one)), 12)
        two["a9"] = BACK
        for garments, name in [((one, two), "b4"), ((two, one), "a6")]:
            with self.assertRaises(BadName) as caught:
                Garment.joined(*garments)
            self.assertEqual(caught.exception.name, name)


class TestAgainstAModel(Case):
    def test_seeded_work(self):
        random = dice(272)
        for _ in range(40):
            garment, model, seams = Garment(), {}, []
            saved = []
            for _ in range(30):
                self.step(random, garment, model, seams)
                names = sorted(model)
                self.assertEqual((garment.names, garment.seams), (names, tuple(seams)))
                for name in names:
                    self.assertTrue(same(garment[name], model[name][-1][1]))
                saved.append(state(garment))
            self.assertEqual(state(garment), saved[-1])

    def step(self, random, garment, model, seams):
        name = random.choice("abcd")
        deed = random.choice(["set", "edit", "edit", "edit", "undo", "sew", "unpick"])
        if deed == "set":
            piece = random.choice([BACK, SLEEVE, CUFF])
            garment[name] = piece
            model[name] = [(None, piece)]
        elif deed == "sew" and "a" in model and name in model:
            garment.sew("a", "end", name, "cast")
            seams.append(("a", "end", name, "cast"))
        elif deed == "unpick" and seams:
            self.assertEqual(garment.unpick(), seams.pop())
        elif deed == "undo" and name in model:
            if len(model[name]) == 1:
                self.refused(NothingDone, garment, garment.undo, name)
            else:
                self.assertEqual(garment.undo(name), model[name].pop()[0])
        elif deed == "edit" and name in model:
            edit = random.choice([("first", 0), ("last", 0), ("alike", 0, 0, 0), ("alike", 0, 0, 1), ("drop", 0),
                                  ("split", 0, (0, 0)), ("gather", 0), ("merge", 0), ("split", 1, (0, 0))])
            try:
                other = edited(model[name][-1][1], edit)
            except NoEdit:
                self.refused(NoEdit, garment, garment.edit, name, edit)
                return
            verdict = garment.edit(name, edit)
            self.assertEqual(bool(verdict), bool(compare(model[name][-1][1], other)))
            if verdict:
                model[name].append(((edit,), other))


if __name__ == "__main__":
    unittest.main()
