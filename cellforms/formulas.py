"""The calls."""

from cellforms.moving import copied_pieces
from cellforms.pointing import pointed_numbers
from cellforms.reading import read_formula
from cellforms.refusals import NotFormula, TooLong, WrongShift
from cellforms.shifting import shifted_pieces
from cellforms.writing import write_formula

NOT_A_FORMULA = -71
WRONG_SHIFT = -22
TOO_LONG = -28


def answer(p, tell):
    try:
        return [0] + tell(read_formula(p))
    except NotFormula:
        return [NOT_A_FORMULA]
    except WrongShift:
        return [WRONG_SHIFT]
    except TooLong:
        return [TOO_LONG]


def tidy(p):
    return answer(p, write_formula)


def copy(columns, rows, p):
    return answer(p, lambda pieces: write_formula(copied_pieces(pieces, columns, rows)))


def shift(what, at, many, p):
    return answer(p, lambda pieces: write_formula(shifted_pieces(pieces, what, at, many)))


def refs(p):
    return answer(p, pointed_numbers)
