"""Which cells hang on which: cells hang on those of the row below that make the loops that they take."""

from allstitches.counting import last_loops
from allstitches.faults import NoCell
from allstitches.integers import is_size
from allstitches.kinds import KINDS
from allstitches.knitting import cloth
from allstitches.measures import where_zero


def below(piece, size, row, place):
    """The ascending list of the places of the cells that a cell hangs on."""
    looks = looks_with(piece, size, row, place)
    return places_below(looks, row, [place])


def above(piece, size, row, place):
    """The ascending list of the places of the cells that hang on a cell."""
    looks = looks_with(piece, size, row, place)
    if row + 1 == len(looks):
        return []
    taken = loops_taken(looks[row + 1])
    makers = makers_of(looks[row])
    return [other for other, loops in enumerate(taken) if place in [makers[loop] for loop in loops]]


def hangs_on(piece, size, row, place):
    """The list with the places of all cells that a cell hangs on, from its own row downwards, first itself."""
    return hanging_from(looks_with(piece, size, row, place), row, place)


def undone(piece, size, loop):
    """What hangs_on returns for the cell that makes a loop that is left at the end."""
    looks = cloth(piece, size)
    makers = makers_of(looks[-1]) if looks else []
    if not is_size(loop) or loop >= len(makers):
        raise NoCell("no such loop, or no row was worked")
    return hanging_from(looks, len(looks) - 1, makers[loop])


def where_closed(piece):
    """The set of the sizes that come out with no loop left."""
    return where_zero([piece], [last_loops(piece)], [])


def looks_with(piece, size, row, place):
    """The cloth of a size; NoCell, if it has no such row, or this one no such place."""
    looks = cloth(piece, size)
    if not is_size(row) or row >= len(looks):
        raise NoCell("no such row")
    if not is_size(place) or place >= len(looks[row]):
        raise NoCell("no such place")
    return looks


def hanging_from(looks, row, place):
    """What hangs_on returns, told the cloth."""
    found = [[place]]
    for number in range(row, 0, -1):
        found.append(places_below(looks, number, found[-1]))
    return found


def places_below(looks, row, places):
    """The ascending list of the places of the cells that some cells of a row, in ascending places, hang on."""
    if row == 0:
        return []
    taken = loops_taken(looks[row])
    makers = makers_of(looks[row - 1])
    found = []
    for place in places:
        for loop in taken[place]:
            # The loops ascend, and so do the cells that make them.
            if not found or found[-1] != makers[loop]:
                found.append(makers[loop])
    return found


def loops_taken(look):
    """The list that has for each cell of a look the list of the loops that it takes."""
    found = []
    first = 0
    for kind, _ in look:
        found.append(list(range(first, first + KINDS[kind][0])))
        first = first + KINDS[kind][0]
    return found


def makers_of(look):
    """The list that has for each loop above a look the place of the cell that makes it."""
    return [place for place, cell in enumerate(look) for _ in range(KINDS[cell[0]][1])]
