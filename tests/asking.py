"""What the tests share: formulas asked for and answered as Python's texts."""

from cellforms.formulas import tidy

NOT_A_FORMULA = -71


def as_bytes(text):
    return list(text.encode("latin-1"))


def shown(answer):
    """A refusal's number, or what was written, as a text."""
    if answer[0] != 0:
        return answer[0] if len(answer) == 1 else answer
    return bytes(answer[1:]).decode("latin-1")


def tidied(text):
    return shown(tidy(as_bytes(text)))
