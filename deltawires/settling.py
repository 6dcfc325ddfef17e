"""What a design settles to, by the values of its inputs and kept signals."""

from deltawires.bits import resolved
from deltawires.signalrows import HELD_SORTS
from deltawires.terms import value_of_term


def driver_choices(when, value):
    """What one driver may give, by the sign of its when: the value, z alone, or either of them."""
    if when == "1":
        return [value]
    silent = "z" * len(value)
    return [silent] if when == "0" else [silent, value]


def alike_sign(signs):
    """The sign that all of them are, z too, else x."""
    return signs[0] if signs.count(signs[0]) == len(signs) else "x"


def driven(drivers):
    """What a bus has by its drivers, tuples of the sign of a when and of a value."""
    cases = [[]]
    for when, value in drivers:
        cases = [case + [choice] for case in cases for choice in driver_choices(when, value)]
    ends = [resolved(case) for case in cases]
    return "".join([alike_sign(signs) for signs in zip(*ends)])


def reckoned(row, values):
    """The value of a wire, a filter or a bus by the values of the signals in its terms."""
    sort, name, width, what = row
    if sort == "bus":
        return driven([(value_of_term(when, values), value_of_term(term, values)) for when, term in what])
    return value_of_term(what, values)


def settled(design, given):
    """A dict of all signals' values, in order, by those of the inputs and the kept signals."""
    values = {row[1]: given[row[1]] for row in design.signal_rows if row[0] in HELD_SORTS}
    for row in design.reckoned_rows:
        values[row[1]] = reckoned(row, values)
    return {row[1]: values[row[1]] for row in design.signal_rows}
