"""What [1] promises over the whole program: answers are new, and hang on nothing but what was asked."""

import inspect
import unittest

from allstitches import (agreeing, charting, costs, counting, crossing, differing, edits, families, fitting, floats,
                         garments, gauging, grading, hanging, holes, joining, kinds, knitting, reading, repairing,
                         rewriting, sameness, seams, settexts, sides, signs, spreading, tabling, turning, writing, yarn)
from allstitches.errors import StitchError, TooLong
from allstitches.pieces import Piece
from allstitches.sizes import Sizes
from tests.pairs import plain_piece, variant
from tests.things import K, P, TOG, YO, block, dice, flat, part, random_piece, ring, row

ALL = Sizes((), 0, 1, (0,))
TWOS = Sizes((), 0, 2, (0,))
PLAIN, RIBS = row([], [K]), row([K], [K, P], [K])
HAT = ring((6, 2), ("row", RIBS), block((1, 1), PLAIN, row([TOG, YO], [K])), part([TOG], [P], [("k", "b")]))
SCARF = flat((6, 2), ("row", RIBS), block((2, 1), PLAIN), part([TOG], [P], [("k", "b")]))
OPEN = holes.Open("flat", (6, 2), (part([("A", K)], [K, P], [("B", P)]),))
TABLE = {size: tabling.at_size(HAT, size) for size in (0, 1, 4)}
TOLD = {5: (K, P, K, P, K), 9: (K, P) * 4 + (K,)}
MEASURES = {0: (10, 1), 1: (13, 1), 2: (15, 1), 4: (22, 1)}
LEGEND = signs.Legend({"+": ("k", "b")})


def form(thing, deep=0):
    """What can be seen of an answer, with all that is within it."""
    if isinstance(thing, (list, tuple)):
        return (type(thing).__name__, [form(one, deep) for one in thing])
    if isinstance(thing, dict):
        return ("dict", sorted((repr(key), form(one, deep)) for key, one in thing.items()))
    if thing is None or isinstance(thing, (int, str)):
        return repr(thing)
    if isinstance(thing, StitchError):
        return (type(thing).__name__, form(vars(thing)))
    return (type(thing).__name__, form({name: value for name, value in vars(thing).items() if name[0] != "_"}))


def spoil(thing):
    """Changes all lists and dicts within an answer, and the attributes of its objects."""
    if isinstance(thing, (list, tuple)):
        for one in thing:
            spoil(one)
    if isinstance(thing, list):
        thing[:] = thing[1:] + ["spoilt"]
    elif isinstance(thing, dict):
        for one in list(thing.values()):
            spoil(one)
        thing.pop(next(iter(thing), None), None)
        thing["spoilt"] = 1
    elif hasattr(thing, "__dict__") and not isinstance(thing, StitchError):
        for name, value in list(vars(thing).items()):
            spoil(value)
            if not isinstance(value, (list, dict)):
                setattr(thing, name, "spoilt")


def asked(piece, other):
    """Questions to two pieces, each a function without arguments."""
    looks = [(K, P, K), (TOG, YO), (K, ("k", "b"))]
    steady = (row([], [("c2f", "a")]), row([K], [("c2b", "a")], [K]))
    return [
        lambda: counting.spots(piece), lambda: counting.last_loops(piece), lambda: counting.out_sizes(piece),
        lambda: counting.trouble(piece, 3), lambda: knitting.cloth(piece, 2), lambda: knitting.loops_at(piece, 2),
        lambda: families.family_of(RIBS), lambda: sameness.where_same(piece, other),
        lambda: sameness.compare(piece, other), lambda: agreeing.agreeing(piece, other),
        lambda: agreeing.agreeing(piece, piece), lambda: turning.turned(piece), lambda: turning.mirrored(piece),
        lambda: turning.inside_out(other), lambda: turning.where_centred(piece), lambda: floats.widest(piece, "b"),
        lambda: floats.where_narrow(piece, "a", 3), lambda: crossing.sent(steady, 6),
        lambda: crossing.where_back(steady, 3), lambda: sides.yarns_of(piece), lambda: sides.where_hanging(other),
        lambda: sides.where_yarns(piece, 1), lambda: joining.joined(piece, piece), lambda: joining.parted(piece, 1),
        lambda: joining.where_goes_on(piece, piece), lambda: settexts.read_sizes("1, 4 + 2 n"),
        lambda: settexts.write_sizes(TWOS), lambda: reading.read_piece(writing.write_piece(piece)),
        lambda: reading.read_row("2 (k, p), *p*"), lambda: writing.write_piece(piece),
        lambda: costs.cheapest((K, P) * 6 + (K,)), lambda: rewriting.alike_rows(RIBS), lambda: rewriting.thrift(RIBS),
        lambda: charting.cheapest_parts([PLAIN, RIBS, PLAIN, RIBS]), lambda: fitting.rows_fitting(dict(TOLD)),
        lambda: tabling.fold(dict(TABLE)), lambda: tabling.fold({**TABLE, 2: tabling.at_size(HAT, 4)}),
        lambda: tabling.at_size(piece, 2), lambda: seams.edge_of(piece, "end"),
        lambda: seams.where_all([(piece, "end", other, "cast")]),
        lambda: seams.where_picked(piece, "end", other, 2, 3), lambda: yarn.amount(piece, "all"),
        lambda: yarn.where_more(piece, other, ("kind", "k")), lambda: yarn.where_most(piece, "all", 99),
        lambda: hanging.below(piece, 2, 1, 0), lambda: hanging.above(piece, 2, 0, 0),
        lambda: hanging.hangs_on(piece, 2, 2, 1), lambda: hanging.undone(piece, 2, 0),
        lambda: hanging.where_closed(piece), lambda: spreading.spread(31, 12), lambda: spreading.schedule(31, 12),
        lambda: spreading.judge_spread([3, 1, 3]), lambda: spreading.shaped("flat", (4, 1), PLAIN, RIBS, [3, 2]),
        lambda: gauging.nearest(piece, "end", 30, 7), lambda: gauging.where_between(piece, "cast", 3, 30),
        lambda: repairing.repair(piece, ALL), lambda: repairing.repair(flat((6, 3), part([K] * 7)), ALL),
        lambda: repairing.recast(piece, (1, 0)), lambda: edits.edited(piece, ("drop", 0)),
        lambda: edits.keeps(piece, ("swap", 0)), lambda: edits.where_kept(piece, ("alike", 0, 0, 0)),
        lambda: differing.fewest_changes(piece, other), lambda: differing.distance(piece, other),
        lambda: garments.Garment(a=piece, b=other).names, lambda: list(garments.Garment(a=piece, b=other).pairs()),
        lambda: garments.Garment(a=piece, b=other).out(), lambda: garments.Garment(a=piece).hindering(3),
        lambda: OPEN.holes, OPEN.choices, lambda: OPEN.filled((1, 2)), lambda: holes.fillings(OPEN, TWOS),
        lambda: holes.ends_with(OPEN, Sizes((1,), 2, 1, ()), 8), lambda: signs.write_chart(looks, LEGEND),
        lambda: signs.read_chart("|.+|\n|o/|", LEGEND), lambda: signs.counts_fit(looks),
        lambda: grading.grade(dict(MEASURES)), lambda: grading.far_by((10, 3), dict(MEASURES)),
        lambda: kinds.behind((K, TOG)),
    ]


def answer(question):
    try:
        return question()
    except StitchError as error:
        return error


class TestAnswers(unittest.TestCase):
    def test_asked_again(self):
        questions = asked(HAT, SCARF)
        forms = []
        for question in questions:
            found = answer(question)
            forms.append(form(found))
            spoil(found)
        for question, told in list(zip(questions, forms))[::-1]:
            self.assertEqual(form(answer(question)), told)
        self.assertEqual(forms, [form(answer(question)) for question in asked(HAT, SCARF)])

    def test_two_pieces_asked_in_turns(self):
        random = dice(11)
        for _ in range(12):
            one = random.choice([random_piece, plain_piece])(random)
            two = variant(random, one)
            ones, twos = asked(one, two), asked(two, one)
            told = [form(answer(question)) for question in ones], [form(answer(question)) for question in twos]
            for at in random.sample(range(len(ones)), len(ones)):
                self.assertEqual(form(answer(twos[at])), told[1][at])
                self.assertEqual(form(answer(ones[at])), told[0][at])

    def test_arguments_stay_as_they_are(self):
        kept = form([HAT, SCARF, OPEN, TABLE, TOLD, MEASURES, ALL, TWOS])
        for question in asked(HAT, SCARF) + asked(SCARF, HAT):
            answer(question)
        self.assertEqual(form([HAT, SCARF, OPEN, TABLE, TOLD, MEASURES, ALL, TWOS]), kept)

    def test_what_was_handed_in_is_changed_behind_the_call(self):
        piece = Piece(HAT.way, HAT.cast, HAT.parts)
        folded, garment = tabling.Folded(piece), garments.Garment(hat=piece)
        table, told, wanted = dict(TABLE), dict(TOLD), dict(MEASURES)
        chart, looks = [PLAIN, RIBS, PLAIN], [(K, P), (TOG,)]
        answers = [lambda: tabling.fold(dict(TABLE)), lambda: fitting.rows_fitting(dict(TOLD)),
                   lambda: grading.grade(dict(MEASURES)), lambda: charting.cheapest_parts([PLAIN, RIBS, PLAIN]),
                   lambda: signs.write_chart([(K, P), (TOG,)], LEGEND)]
        found = [tabling.fold(table), fitting.rows_fitting(told), grading.grade(wanted), charting.cheapest_parts(chart),
                 signs.write_chart(looks, LEGEND)]
        for given in (table, told, wanted):
            given.clear()
        chart.clear()
        looks.clear()
        piece.way, piece.cast, piece.parts = "flat", (1, 0), ()
        self.assertEqual([form(one) for one in found], [form(question()) for question in answers])
        self.assertEqual((form(folded.piece), form(garment["hat"])), (form(HAT), form(HAT)))
        self.assertTrue(folded.shows({size: tabling.at_size(HAT, size) for size in (0, 2)}))

    def test_evidence_is_copied(self):
        for made, given in [
                (lambda given: costs.Cheapest((), given), {(0, 1): 1}), (lambda given: rewriting.Thrift(PLAIN, given), [1]),
                (lambda given: charting.Chart((), given), [0]), (lambda given: agreeing.Sheet(2, given), [(0, None)] * 2),
                (lambda given: repairing.Repair((0, 0), given), {(1, 0): 1}), (repairing.Beyond, {(1, 0): 1}),
                (lambda given: differing.Changes(given, {}), [("take", 0)]),
                (lambda given: differing.Changes([], given), {(0, 0): 1}), (lambda given: grading.Grade((1, 1), given), {1: (2, 2)}),
                (lambda given: holes.Filling(given, {}), [(1,)]), (lambda given: holes.Filling([], given), {(1,): 1})]:
            found = made(given)
            before = form(found)
            given.clear()
            self.assertEqual(form(found), before)


class TestRefusals(unittest.TestCase):
    def test_shows_refuses_as_the_function_beside_it(self):
        # A common measure of 1566.
        wide, other = ring((0, 1), part((), [K] * 29)), ring((0, 1), part((), [K] * 27))
        for given in (agreeing.Sheet(2, []), agreeing.Split(0)):
            self.assertIsInstance(answer(lambda: given.shows(wide, other)), TooLong)
        self.assertIsInstance(answer(lambda: agreeing.agreeing(wide, other)), TooLong)
        pairs = [(costs.Cheapest((), {}).shows, costs.cheapest), (rewriting.Thrift(PLAIN, []).shows, rewriting.thrift),
                 (charting.Chart((), []).shows, charting.cheapest_parts), (tabling.Folded(HAT).shows, tabling.fold),
                 (tabling.Unfolded(0, ()).shows, tabling.fold), (spreading.Even(0).shows, spreading.judge_spread),
                 (spreading.Uneven(0, 0, 1).shows, spreading.judge_spread), (grading.Grade((0, 0), {}).shows, grading.grade)]
        for thing in (None, True, 5, "k", (), [], {}, (1,), [None], {1: 1}, (("k", "a"),) * 61, [PLAIN] * 61):
            for shows, function in pairs:
                one, two = answer(lambda: shows(thing)), answer(lambda: function(thing))
                self.assertEqual(isinstance(one, StitchError), isinstance(two, StitchError), (function, thing))
                if isinstance(two, StitchError):
                    self.assertEqual(form(one), form(two))
        for wanted in (None, 5, Sizes((), 0, 43, (0,))):
            one, two = repairing.Repair((0, 0), {}), repairing.Beyond({})
            told = form(answer(lambda: repairing.repair(HAT, wanted)))
            self.assertEqual([form(answer(lambda: given.shows(HAT, wanted))) for given in (one, two)], [told, told])
            for open_piece in (None, HAT, OPEN):
                self.assertEqual(form(answer(lambda: holes.Filling([], {}).shows(open_piece, wanted))),
                                 form(answer(lambda: holes.fillings(open_piece, wanted))))

    def test_booleans_are_no_integers(self):
        for call in [lambda: knitting.cloth(HAT, True), lambda: knitting.loops_at(HAT, False),
                     lambda: tabling.at_size(HAT, True), lambda: hanging.below(HAT, True, 0, 0),
                     lambda: hanging.below(HAT, 1, True, 0), lambda: hanging.undone(HAT, 1, True),
                     lambda: joining.parted(HAT, True), lambda: yarn.where_most(HAT, "all", True),
                     lambda: gauging.nearest(HAT, "end", True, 1), lambda: gauging.where_between(HAT, "end", 0, True),
                     lambda: seams.where_picked(HAT, "end", HAT, True, 1), lambda: spreading.spread(True, 1),
                     lambda: spreading.judge_spread([True]), lambda: spreading.schedule(2, True),
                     lambda: edits.edited(HAT, ("drop", False)), lambda: edits.edited(HAT, ("turn", 1, True)),
                     lambda: holes.ends_with(OPEN, TWOS, True), lambda: grading.grade({True: (1, 1)}),
                     lambda: grading.grade({1: (True, 1)}), lambda: Sizes((), False, 1, ()),
                     lambda: Piece("flat", (True, 0), ()), lambda: writing.write_line((True, 0)),
                     lambda: crossing.where_back((PLAIN,), True), lambda: fitting.rows_fitting({True: (K,), 2: (K, K)}),
                     lambda: tabling.fold({True: flat((4, 0))})]:
            self.assertIsInstance(answer(call), StitchError, inspect.getsource(call))
        self.assertNotIn(True, Sizes((), 0, 1, (0,)))


if __name__ == "__main__":
    unittest.main()
