"""Keeps places and ranges pointing where they pointed when rows or columns are put in or taken out.

What is done is told by a number: rows are put in (0) or taken out (1), columns are put in (2) or taken out (3).
"""

from cellforms.pieces import COLUMNS, ROWS, lost_piece, range_piece
from cellforms.refusals import WrongShift

MOST_WHAT = 3
OF_ROWS = (0, 1)
PUT_IN = (0, 2)


def most_lines(what):
    return ROWS if what in OF_ROWS else COLUMNS


def check_shift(what, at, many):
    if what > MOST_WHAT or many == 0 or at + many > most_lines(what):
        raise WrongShift()


def put_in(first, last, at, many, most):
    first_then = first + many if first >= at else first
    last_then = last + many if last >= at else last
    # A beginning that comes off the sheet lies behind this end, so that nothing is left.
    return (first_then, min(last_then, most - 1))


def taken_out(first, last, at, many):
    # A beginning that's taken out gives way to what lay behind, an end to what lay before.
    first_then = max(first - many, at) if first >= at else first
    last_then = max(last - many, at - 1) if last >= at else last
    return (first_then, last_then)


def line_of(place, what):
    return place[1] if what in OF_ROWS else place[0]


def at_line(place, what, number):
    line = (number, line_of(place, what)[1])
    return (place[0], line) if what in OF_ROWS else (line, place[1])


def shifted_ends(ends, what, at, many):
    first = line_of(ends[0], what)[0]
    last = line_of(ends[1], what)[0]
    if what in PUT_IN:
        then = put_in(first, last, at, many, most_lines(what))
    else:
        then = taken_out(first, last, at, many)
    if then[0] > then[1]:
        return None
    return (at_line(ends[0], what, then[0]), at_line(ends[1], what, then[1]))


def shifted_place(place, what, at, many):
    # As a range of one, which can't be cut without being lost.
    ends = shifted_ends((place, place), what, at, many)
    return lost_piece() if ends is None else ("place", ends[0])


def shifted_range(ends, what, at, many):
    left = shifted_ends(ends, what, at, many)
    # Made anew, for the ends may have become like ones of which the first is held.
    return lost_piece() if left is None else range_piece(left[0], left[1])


def shifted_piece(piece, what, at, many):
    kind = piece[0]
    if kind == "place":
        return shifted_place(piece[1], what, at, many)
    if kind == "range":
        return shifted_range(piece[1], what, at, many)
    return piece


def shifted_pieces(pieces, what, at, many):
    check_shift(what, at, many)
    return [shifted_piece(piece, what, at, many) for piece in pieces]
