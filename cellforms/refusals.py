"""What is refused, one error for each refusal, and the length that both are measured by."""

MOST_BYTES = 64


class NotFormula(Exception):
    pass


class TooLong(Exception):
    pass
