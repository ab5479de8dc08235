"""Writes a formula's pieces as bytes."""

from cellforms.pieces import DOLLAR, GREAT_A
from cellforms.refusals import MOST_BYTES, TooLong


def bytes_of(signs):
    return [ord(sign) for sign in signs]


def dollar_if(held):
    return [DOLLAR] if held == 1 else []


def write_place(place):
    column = place[0]
    row = place[1]
    return dollar_if(column[1]) + [GREAT_A + column[0]] + dollar_if(row[1]) + bytes_of(str(row[0] + 1))


def write_piece(piece):
    kind = piece[0]
    value = piece[1]
    if kind in ("number", "text"):
        return value
    if kind == "place":
        return write_place(value)
    if kind == "range":
        return write_place(value[0]) + bytes_of(":") + write_place(value[1])
    return bytes_of(kind)


def write_formula(pieces):
    form = []
    for piece in pieces:
        form.extend(write_piece(piece))
    if len(form) > MOST_BYTES:
        raise TooLong()
    return form
