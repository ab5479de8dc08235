"""The calls."""

from cellforms.moving import copied_pieces
from cellforms.reading import read_formula
from cellforms.refusals import NotFormula, TooLong, WrongShift
from cellforms.shifting import shifted_pieces
from cellforms.writing import write_formula

NOT_A_FORMULA = -71
WRONG_SHIFT = -22
TOO_LONG = -28


def answer_written(p, change):
    try:
        return [0] + write_formula(change(read_formula(p)))
    except NotFormula:
        return [NOT_A_FORMULA]
    except WrongShift:
        return [WRONG_SHIFT]
    except TooLong:
        return [TOO_LONG]


def tidy(p):
    return answer_written(p, lambda pieces: pieces)


def copy(columns, rows, p):
    return answer_written(p, lambda pieces: copied_pieces(pieces, columns, rows))


def shift(what, at, many, p):
    return answer_written(p, lambda pieces: shifted_pieces(pieces, what, at, many))
