"""What is refused, one error for each refusal, and the length that formulas are measured by."""

MOST_BYTES = 64


class NotFormula(Exception):
    pass


class WrongShift(Exception):
    pass


class TooLong(Exception):
    pass
