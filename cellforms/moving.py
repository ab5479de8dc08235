"""Moves the places and ranges among a formula's pieces along with the formula."""

from cellforms.pieces import COLUMNS, ROWS, lost_piece, range_piece


def further(line, by):
    number = line[0]
    held = line[1]
    return line if held == 1 else (number + by, held)


def copied_place(place, columns, rows):
    return (further(place[0], columns), further(place[1], rows))


def on_sheet(place):
    column = place[0]
    row = place[1]
    return 0 <= column[0] < COLUMNS and 0 <= row[0] < ROWS


def copied_range(ends, columns, rows):
    one = copied_place(ends[0], columns, rows)
    other = copied_place(ends[1], columns, rows)
    if on_sheet(one) and on_sheet(other):
        # Made anew, for a held end may have been passed by the other one.
        return range_piece(one, other)
    return lost_piece()


def copied_piece(piece, columns, rows):
    kind = piece[0]
    if kind == "place":
        place = copied_place(piece[1], columns, rows)
        return ("place", place) if on_sheet(place) else lost_piece()
    if kind == "range":
        return copied_range(piece[1], columns, rows)
    return piece


def copied_pieces(pieces, columns, rows):
    # The brackets stay as they are: what's lost holds together as tightly as a place.
    return [copied_piece(piece, columns, rows) for piece in pieces]
