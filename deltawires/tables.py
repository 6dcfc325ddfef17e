"""The operators, each exact: a bit is told where all fillings of the arguments have it alike."""

from deltawires.bits import mixed, read

WORDS = ("not", "and", "or", "xor", "plus", "same", "less", "any", "all", "pick", "join", "part")
# How many values each operator has; the two numbers of part are no values.
ARGUMENTS = {
    "not": 1,
    "and": 2,
    "or": 2,
    "xor": 2,
    "plus": 2,
    "same": 2,
    "less": 2,
    "any": 1,
    "all": 1,
    "pick": 3,
    "join": 2,
    "part": 1,
}
TURNED = {"0": "1", "1": "0", "x": "x"}


def and_sign(one, other):
    if one == "0" or other == "0":
        return "0"
    return "1" if one == "1" and other == "1" else "x"


def or_sign(one, other):
    if one == "1" or other == "1":
        return "1"
    return "0" if one == "0" and other == "0" else "x"


def xor_sign(one, other):
    if one == "x" or other == "x":
        return "x"
    return "0" if one == other else "1"


def most_sign(one, other, third):
    """What at least two of the three are told to be, else x."""
    signs = one + other + third
    if signs.count("0") > 1:
        return "0"
    return "1" if signs.count("1") > 1 else "x"


def by_bits(rule, one, other):
    return "".join([rule(sign, there) for sign, there in zip(one, other)])


def not_value(value):
    return "".join([TURNED[sign] for sign in value])


def and_value(one, other):
    return by_bits(and_sign, one, other)


def or_value(one, other):
    return by_bits(or_sign, one, other)


def xor_value(one, other):
    return by_bits(xor_sign, one, other)


def plus_value(one, other):
    """The sum; a carry hangs on lower bits alone, so it and the two bits beside it go by themselves."""
    carry = "0"
    signs = ""
    for sign, there in zip(one[::-1], other[::-1]):
        signs = xor_sign(xor_sign(sign, there), carry) + signs
        carry = most_sign(sign, there, carry)
    return signs


def any_value(value):
    if "1" in value:
        return "1"
    return "x" if "x" in value else "0"


def all_value(value):
    if "0" in value:
        return "0"
    return "x" if "x" in value else "1"


def same_value(one, other):
    return TURNED[any_value(xor_value(one, other))]


def lowest(value):
    return value.replace("x", "0")


def highest(value):
    return value.replace("x", "1")


def less_value(one, other):
    """Told by the outermost fillings; texts of one width sort as the numbers that they write."""
    if highest(one) < lowest(other):
        return "1"
    return "0" if lowest(one) >= highest(other) else "x"


def pick_value(choice, one, other):
    if choice == "x":
        return mixed(one, other)
    return one if choice == "1" else other


def join_value(one, other):
    return one + other


def part_value(value, high, low):
    """Bits are numbered from the lowest, which stands last."""
    return value[len(value) - 1 - high:len(value) - low]


ACTIONS = {
    "not": not_value,
    "and": and_value,
    "or": or_value,
    "xor": xor_value,
    "plus": plus_value,
    "same": same_value,
    "less": less_value,
    "any": any_value,
    "all": all_value,
    "pick": pick_value,
    "join": join_value,
}


def operated(word, values, *, high=0, low=0):
    """What the operator with this word tells of a list of values; high and low are of part alone."""
    arguments = [read(value) for value in values]
    if word == "part":
        return part_value(arguments[0], high, low)
    action = ACTIONS[word]
    return action(*arguments)
