"""Edges of pieces, and the sizes at which edges fit together."""

from allstitches.counting import last_loops, rows_worked
from allstitches.faults import BadEdge
from allstitches.integers import is_whole
from allstitches.lines import Ratio
from allstitches.measures import check_measures, where_zero

EDGES = ("cast", "end", "side")
MOST_PICKED = 60


def edge_of(piece, edge):
    """The triple (base, rise, below) of an edge, a line with a fraction, right at the sizes that come out."""
    check_edge(edge)
    told = edge_ratio(piece, edge)
    return (told.base, told.rise, told.below)


def where_seam(one, edge, other, other_edge):
    """The set of the sizes that come out in both pieces and at which these edges are equal."""
    return where_all([(one, edge, other, other_edge)])


def where_all(seams):
    """The set of the sizes that come out in all pieces of a list of seams, and at which all of these fit."""
    for _, edge, _, other_edge in seams:
        check_edge(edge)
        check_edge(other_edge)
    pieces = [piece for one, _, other, _ in seams for piece in (one, other)]
    check_measures(pieces)
    return where_zero(pieces, [seam_gap(one, edge, other, there) for one, edge, other, there in seams], [])


def where_picked(one, edge, other, take, units):
    """The set of the sizes that come out in both pieces, where the second casts on take loops for so many units."""
    check_edge(edge)
    if not is_picked(take) or not is_picked(units):
        raise BadEdge(f"take or units is not an integer from 1 to {MOST_PICKED}")
    check_measures([one, other], take)
    taken, cast = edge_ratio(one, edge).times(take, 1), edge_ratio(other, "cast")
    # Where the loops cast on are as many, units divides the edge just if take divides these loops.
    return where_zero([one, other], [difference(taken, cast.times(units, 1))], [cast.times(1, take)])


def check_edge(edge):
    """Raises BadEdge, if a thing is not the name of an edge."""
    if not isinstance(edge, str) or edge not in EDGES:
        raise BadEdge("not the name of an edge")


def is_picked(thing):
    """Whether a thing is an integer that loops may be picked up by."""
    return is_whole(thing) and 1 <= thing <= MOST_PICKED


def edge_ratio(piece, edge):
    """The Ratio of an edge that has this name."""
    if edge == "cast":
        return Ratio(piece.cast[0], piece.cast[1], 1)
    return last_loops(piece) if edge == "end" else rows_worked(piece)


def seam_gap(one, edge, other, other_edge):
    """A Ratio that is 0 just where two edges are equal."""
    return difference(edge_ratio(one, edge), edge_ratio(other, other_edge))


def difference(one, other):
    """A Ratio that is 0 just where two Ratios are equal."""
    return Ratio(one.base * other.below - other.base * one.below, one.rise * other.below - other.rise * one.below, 1)
