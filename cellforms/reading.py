"""Reads a formula by its grammar into a list of pieces, in which "(" stands only where it's needed."""

from cellforms.pieces import range_piece, sign_piece, split_pieces
from cellforms.refusals import MOST_BYTES, NotFormula

MOST_WITHIN = 16
MOST_ARGUMENTS = 8

SINGLE = ("number", "text", "place", "#REF")
NAMES = ("SUM", "COUNT", "MIN", "MAX")
COMPARED = ("=", "<>", "<=", "<", ">=", ">")

# How tightly a part holds together: where a tighter one must stand, it needs "(".
AS_SUM = 0
AS_TERM = 1
AS_FACTOR = 2


class Part:
    def __init__(self, tightness, pieces):
        self.tightness = tightness
        self.pieces = pieces


class Reader:
    def __init__(self, pieces):
        self.pieces = pieces
        self.at = 0

    def kind(self, ahead=0):
        at = self.at + ahead
        return self.pieces[at][0] if at < len(self.pieces) else None

    def take(self, kinds):
        if self.kind() not in kinds:
            raise NotFormula()
        self.at += 1
        return self.pieces[self.at - 1]


def deeper(depth):
    # Asked ahead of each step inward, so that the calls within one another stay few.
    if depth == MOST_WITHIN:
        raise NotFormula()
    return depth + 1


def standing(part, least):
    if part.tightness >= least:
        return part.pieces
    return [sign_piece("(")] + part.pieces + [sign_piece(")")]


def read_sum(reader, depth):
    part = read_term(reader, depth)
    while reader.kind() in ("+", "-"):
        sign = reader.take(("+", "-"))
        right = read_term(reader, depth)
        part = Part(AS_SUM, part.pieces + [sign] + standing(right, AS_TERM))
    return part


def read_term(reader, depth):
    part = read_factor(reader, depth)
    while reader.kind() in ("*", "/"):
        sign = reader.take(("*", "/"))
        right = read_factor(reader, depth)
        part = Part(AS_TERM, standing(part, AS_TERM) + [sign] + standing(right, AS_FACTOR))
    return part


def read_factor(reader, depth):
    if reader.kind() != "-":
        return read_primary(reader, depth)
    sign = reader.take(("-",))
    factor = read_factor(reader, deeper(depth))
    return Part(AS_FACTOR, [sign] + standing(factor, AS_FACTOR))


def read_primary(reader, depth):
    kind = reader.kind()
    if kind == "(":
        return read_bracketed(reader, deeper(depth))
    if kind == "IF":
        return Part(AS_FACTOR, read_choice(reader, deeper(depth)))
    if kind in NAMES:
        return Part(AS_FACTOR, read_call(reader, deeper(depth)))
    return Part(AS_FACTOR, [reader.take(SINGLE)])


def read_bracketed(reader, depth):
    # Given back bare: whether "(" is needed is known only where the part comes to stand.
    reader.take(("(",))
    part = read_sum(reader, depth)
    reader.take((")",))
    return part


def read_choice(reader, depth):
    pieces = [reader.take(("IF",))]
    for ahead in (("(",), COMPARED, (",",), (",",)):
        pieces.append(reader.take(ahead))
        pieces.extend(read_sum(reader, depth).pieces)
    pieces.append(reader.take((")",)))
    return pieces


def read_call(reader, depth):
    pieces = [reader.take(NAMES), reader.take(("(",))]
    pieces.extend(read_argument(reader, depth))
    arguments = 1
    while reader.kind() == "," and arguments < MOST_ARGUMENTS:
        pieces.append(reader.take((",",)))
        pieces.extend(read_argument(reader, depth))
        arguments += 1
    pieces.append(reader.take((")",)))
    return pieces


def read_argument(reader, depth):
    if reader.kind() != "place" or reader.kind(1) != ":":
        return read_sum(reader, depth).pieces
    one = reader.take(("place",))
    reader.take((":",))
    other = reader.take(("place",))
    return [range_piece(one[1], other[1])]


def read_formula(p):
    if len(p) > MOST_BYTES:
        raise NotFormula()
    reader = Reader(split_pieces(p))
    part = read_sum(reader, 0)
    if reader.kind() is not None:
        raise NotFormula()
    return part.pieces
