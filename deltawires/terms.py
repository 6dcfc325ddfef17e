"""Terms: tuples of values, names and operators within one another."""

from deltawires.bits import WIDEST, is_put_value, is_whole, read
from deltawires.errors import NoTerm
from deltawires.tables import ARGUMENTS, WORDS, operated

LETTERS = "abcdefghijklmnopqrstuvwxyz"
NAME_SIGNS = "abcdefghijklmnopqrstuvwxyz0123456789"
LONGEST_NAME = 8
KEPT_WORDS = ("is", "of", "at", "filters", "later")
MOST_TUPLES = 60
DEEPEST_TERM = 10
ONE_BIT_WORDS = ("same", "less", "any", "all")


def is_name(thing):
    """Whether a thing is a name of a signal or a block."""
    if not isinstance(thing, str) or not 1 <= len(thing) <= LONGEST_NAME:
        return False
    if thing in WORDS or thing in KEPT_WORDS:
        return False
    return thing[0] in LETTERS and all([sign in NAME_SIGNS for sign in thing])


def is_width(thing):
    """Whether a thing is a whole number that a value can have as its width."""
    return is_whole(thing) and 1 <= thing <= WIDEST


def is_span(high, low):
    """Whether two things are numbers of bits, as part has them."""
    return is_whole(high) and is_whole(low) and 0 <= low <= high < WIDEST


def is_shell(thing):
    """Whether a thing is a term, whatever stands in the places of the terms within it."""
    if not isinstance(thing, tuple) or len(thing) < 2 or not isinstance(thing[0], str):
        return False
    word = thing[0]
    if word == "is":
        return len(thing) == 2 and is_put_value(thing[1])
    if word == "of":
        return len(thing) == 2 and is_name(thing[1])
    if word == "part":
        return len(thing) == 4 and is_span(thing[2], thing[3])
    return word in ARGUMENTS and len(thing) == 1 + ARGUMENTS[word]


def arguments_of(term):
    """The terms that stand straight within a term, as a list."""
    if term[0] == "is" or term[0] == "of":
        return []
    return list(term[1:1 + ARGUMENTS[term[0]]])


def is_term(thing):
    """Whether a thing is a term."""
    level = [thing]
    many = 0
    # Level by level, so that nothing is looked at beyond the bounds, however often one tuple stands in others.
    for turn in range(DEEPEST_TERM):
        many += len(level)
        if many > MOST_TUPLES or not all([is_shell(inner) for inner in level]):
            return False
        level = [argument for inner in level for argument in arguments_of(inner)]
        if not level:
            return True
    return False


def operator_width(term, inside):
    """The width of what an operator tells, by its arguments' widths; 0 where these do not fit it."""
    word = term[0]
    if word == "part":
        return term[2] - term[3] + 1 if inside[0] > term[2] else 0
    if word == "join":
        return sum(inside) if sum(inside) <= WIDEST else 0
    alike = inside
    if word == "pick":
        if inside[0] != 1:
            return 0
        alike = inside[1:]
    if alike.count(alike[0]) != len(alike):
        return 0
    return 1 if word in ONE_BIT_WORDS else alike[0]


def fitting_width(term, widths):
    """The width of a term; NoTerm where it does not fit."""
    if term[0] == "is":
        return len(term[1])
    if term[0] == "of":
        if term[1] not in widths or not is_width(widths[term[1]]):
            raise NoTerm("a name has no width")
        return widths[term[1]]
    width = operator_width(term, [fitting_width(argument, widths) for argument in arguments_of(term)])
    if width == 0:
        raise NoTerm("the arguments do not fit their operator")
    return width


def width_of(term, widths):
    """The width of a term by a dict of the names' widths; NoTerm where it is none, or does not fit."""
    if not is_term(term):
        raise NoTerm("it is no term")
    return fitting_width(term, widths)


def has_width(thing, widths, width):
    """Whether a thing is a term that fits the widths and has that width."""
    try:
        return width_of(thing, widths) == width
    except NoTerm:
        return False


def every_name(term):
    """The names as they stand from the left, each as often as it stands."""
    if term[0] == "of":
        return [term[1]]
    return [name for argument in arguments_of(term) for name in every_name(argument)]


def once_each(names):
    """The names in the order in which they come first."""
    return list({name: True for name in names})


def names_in(term):
    """The names of a term, as they stand from the left, each once."""
    return once_each(every_name(term))


def times_in(term, name):
    """How often the name stands in a term."""
    return every_name(term).count(name)


def value_of_term(term, values):
    """The value of a term by a dict of the names' values."""
    if term[0] == "is":
        return term[1]
    if term[0] == "of":
        return read(values[term[1]])
    inside = [value_of_term(argument, values) for argument in arguments_of(term)]
    if term[0] == "part":
        return operated("part", inside, high=term[2], low=term[3])
    return operated(term[0], inside)
