"""Values: texts of one to eight signs 0, 1, x, z, the highest bit first."""

from deltawires.errors import NoNumber, NoValue

WIDEST = 8
SIGNS = "01xz"
TOLD = "01"


def is_whole(thing):
    """Whether a thing is a whole number; True and False are none."""
    return isinstance(thing, int) and not isinstance(thing, bool)


def is_value(thing, *, width=0):
    """Whether a thing is a value, of that width if it is not 0."""
    if not isinstance(thing, str) or not 1 <= len(thing) <= WIDEST:
        return False
    if width != 0 and len(thing) != width:
        return False
    return all([sign in SIGNS for sign in thing])


def is_put_value(thing, *, width=0):
    """Whether a thing is a value without z, of that width if it is not 0: inputs and kept signals have no other."""
    return is_value(thing, width=width) and "z" not in thing


def read(value):
    """The value with x in the place of each z."""
    return value.replace("z", "x")


def fillings(value):
    """All values with told bits alone that have the value's told bits, sorted."""
    starts = [""]
    for sign in value:
        choices = sign if sign in TOLD else TOLD
        # Texts of one length that are sorted stay so, as 0 is put behind each ahead of 1.
        starts = [start + told for start in starts for told in choices]
    return starts


def number_of(value):
    """The number that the bits write; NoNumber where one is not told."""
    number = 0
    for sign in value:
        if sign not in TOLD:
            raise NoNumber("a bit is not told")
        number = number * 2 + int(sign)
    return number


def value_of(number, *, width=WIDEST):
    """The value of that width that writes the number; NoValue where there is none."""
    if not is_whole(number):
        raise NoValue("it is no whole number")
    if number < 0 or number.bit_length() > width:
        raise NoValue("the width cannot write it")
    return f"{number:b}".zfill(width)


def covers(one, other):
    """Whether the other has the same width, and each told bit of the one."""
    if len(one) != len(other):
        return False
    return all([sign not in TOLD or sign == there for sign, there in zip(one, other)])


def mixed_sign(one, other):
    """The sign, where both have it and it is told, else x."""
    return one if one == other and one in TOLD else "x"


def mixed(one, other):
    """Bit by bit what is told and alike in both values, else x."""
    return "".join([mixed_sign(sign, there) for sign, there in zip(one, other)])


def resolved_sign(signs):
    """What drivers with these signs give together; z is no driving at all."""
    driven = [sign for sign in signs if sign != "z"]
    if not driven:
        return "z"
    return driven[0] if driven.count(driven[0]) == len(driven) else "x"


def resolved(values):
    """Bit by bit what the values, one or more of one width, give together."""
    return "".join([resolved_sign(signs) for signs in zip(*values)])
