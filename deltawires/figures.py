"""Whole numbers in figures, however many of them; int alone refuses some thousands."""

FIGURES = "0123456789"
MANY_AT_ONCE = 60
BEHIND_SO_MANY = 10 ** 60


def is_whole_text(word):
    """Whether a text is a whole number as str writes it."""
    figures = word.removeprefix("-")
    if figures == "" or not all([sign in FIGURES for sign in figures]):
        return False
    return word == "0" or figures[0] != "0"


def whole_of(word):
    """The whole number that a text is."""
    figures = word.removeprefix("-")
    first = len(figures) % MANY_AT_ONCE
    number = int("0" + figures[:first])
    for at in range(first, len(figures), MANY_AT_ONCE):
        number = number * BEHIND_SO_MANY + int(figures[at:at + MANY_AT_ONCE])
    return -number if word.startswith("-") else number
