"""Tells where a formula's places and ranges point."""


def numbers_of(place):
    column = place[0]
    row = place[1]
    return [column[0], row[0]]


def numbers_of_piece(piece):
    kind = piece[0]
    value = piece[1]
    if kind == "place":
        return numbers_of(value) + numbers_of(value)
    if kind == "range":
        return numbers_of(value[0]) + numbers_of(value[1])
    return []


def pointed_numbers(pieces):
    numbers = []
    for piece in pieces:
        numbers.extend(numbers_of_piece(piece))
    return numbers
