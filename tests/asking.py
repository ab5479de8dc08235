"""What the tests share: formulas asked for and answered as Python's texts."""

from cellforms.formulas import copy, refs, shift, tidy

LETTERS = "ABCDEFGHIJKLMNOPQRSTUVWXYZ"
NOT_A_FORMULA = -71
WRONG_SHIFT = -22
TOO_LONG = -28


def as_bytes(text):
    return list(text.encode("latin-1"))


def shown(answer):
    """A refusal's number, or what was written, as a text."""
    if answer[0] != 0:
        return answer[0] if len(answer) == 1 else answer
    return bytes(answer[1:]).decode("latin-1")


def tidied(text):
    return shown(tidy(as_bytes(text)))


def copied(columns, rows, text):
    return shown(copy(columns, rows, as_bytes(text)))


def shifted(what, at, many, text):
    return shown(shift(what, at, many, as_bytes(text)))


def pointed(text):
    """A refusal's number, or the places and ranges, four numbers each."""
    answer = refs(as_bytes(text))
    if answer[0] != 0:
        return answer[0] if len(answer) == 1 else answer
    return [tuple(answer[at:at + 4]) for at in range(1, len(answer), 4)]


class Unchanged(list):
    """A list that fails if something is put into it, taken out or changed."""

    def refuse(self, *given):
        raise AssertionError("what was handed in is changed")

    append = extend = insert = pop = remove = reverse = sort = clear = refuse
    __setitem__ = __delitem__ = __iadd__ = __imul__ = refuse
