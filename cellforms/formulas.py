"""The calls."""

from cellforms.reading import read_formula
from cellforms.refusals import NotFormula, TooLong
from cellforms.writing import write_formula

NOT_A_FORMULA = -71
TOO_LONG = -28


def tidy(p):
    try:
        return [0] + write_formula(read_formula(p))
    except NotFormula:
        return [NOT_A_FORMULA]
    except TooLong:
        return [TOO_LONG]
