"""Terms as texts, and back."""

from deltawires.errors import NoText
from deltawires.tables import ARGUMENTS
from deltawires.terms import DEEPEST_TERM, NAME_SIGNS, arguments_of, is_term

BIT_FIGURES = "01234567"


def term_text(term):
    """The term as a text."""
    word = term[0]
    if word == "is":
        return "'" + term[1]
    if word == "of":
        return term[1]
    parts = [term_text(argument) for argument in arguments_of(term)]
    if word == "part":
        parts = parts + [str(term[2]), str(term[3])]
    return word + "(" + ", ".join(parts) + ")"


def run_at(text, at):
    """The letters and figures that stand at a place, as many as there are."""
    end = at
    while end < len(text) and text[end] in NAME_SIGNS:
        end += 1
    return text[at:end]


def behind(text, at, mark):
    """The place behind a mark, which has to stand at the place told."""
    if text[at:at + len(mark)] != mark:
        raise NoText("a bracket or a comma is missing")
    return at + len(mark)


def figure_at(text, at):
    """The number of a bit that stands at a place."""
    sign = text[at:at + 1]
    if sign == "" or sign not in BIT_FIGURES:
        raise NoText("the number of a bit is missing")
    return int(sign)


def operator_at(text, at, word, deep):
    """The operator's term whose bracket opens at a place, and the place behind it."""
    parts = [word]
    mark = "("
    for turn in range(ARGUMENTS[word]):
        argument, at = term_at(text, behind(text, at, mark), deep + 1)
        parts.append(argument)
        mark = ", "
    if word == "part":
        for turn in range(2):
            at = behind(text, at, ", ")
            parts.append(figure_at(text, at))
            at += 1
    return tuple(parts), behind(text, at, ")")


def term_at(text, at, deep):
    """The term that begins at a place, so deep within others, and the place behind it."""
    if deep > DEEPEST_TERM:
        raise NoText("too many brackets within one another")
    if text[at:at + 1] == "'":
        value = run_at(text, at + 1)
        return ("is", value), at + 1 + len(value)
    word = run_at(text, at)
    if word in ARGUMENTS:
        return operator_at(text, at + len(word), word, deep)
    return ("of", word), at + len(word)


def read_term(text):
    """The term that is written so; NoText where there is none."""
    if not isinstance(text, str):
        raise NoText("it is no text")
    term, end = term_at(text, 0, 1)
    if end != len(text) or not is_term(term):
        raise NoText("no term is written so")
    return term
