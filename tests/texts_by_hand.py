"""Texts by a pattern, and what may follow the beginning of one, by trying out endings."""

import re

from tests import by_hand

TEXT = re.compile(r"nan|[-+]?(inf|([0-9]+\.?[0-9]*|\.[0-9]+)(e[-+]?[0-9]{1,4})?)")

SIGNS = "+-.0123456789aefin"

# With one of these behind it whatever is the beginning of a text is a text.
ENDINGS = ("", "0", "an", "n", "nf", "f", "nan", "inf")

# Endings with figures alone: among them the least and the greatest of all, as all half ways end within 1,200 figures.
FIGURES = ("0", "9" * 1300, "9999", "", "5", "999", "99", "9", "0" * 60 + "1")

# Other endings, with the least and the greatest powers behind an "e".
OTHERS = ("e9999", "e-9999", "0e9999", "0e-9999", "-9999", "+9999", "1e9999", "." + "9" * 1300)
OTHERS += (".0e9999", "e0", "inf", "nan", "an", "n", "nf", "f")


def is_text(text):
    """[12], however many signs it has."""
    return TEXT.fullmatch(text) is not None


def is_beginning(text):
    return any(is_text(text + ending) for ending in ENDINGS)


def follows(text):
    return "".join(sign for sign in SIGNS if is_beginning(text + sign))


def first_wrong(text):
    """The place of the first sign that doesn't follow those ahead of it, or of the end."""
    return next((at for at in range(len(text)) if not is_beginning(text[: at + 1])), len(text))


def known(heard, shape, way, figures):
    """[63], by the endings: the one number that all texts tell, or None."""
    endings = FIGURES if figures else OTHERS + FIGURES
    told = None
    for ending in endings:
        if is_text(heard + ending):
            number = by_hand.read(heard + ending, shape, way)[0]
            if told is not None and not told == number:
                return None
            told = number
    return told
