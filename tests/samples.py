"""Values that several tests draw on."""

import itertools
import random

SIGNS = "01xz"

NO_TEXTS = [
    None, True, False, 0, 1, -1, 10, 10 ** 40, [], ["0"], ["0", "1"], (), ("0",), ("0", "1"),
    {}, {"0": "1"}, b"", b"0", b"01xz", {"0"}, frozenset({"1"}), object(), str, len,
]


def texts(signs, length):
    return ["".join(chosen) for chosen in itertools.product(signs, repeat=length)]


def values_of_width(width):
    return texts(SIGNS, width)


def drawn_value(source, width, signs=SIGNS):
    return "".join([source.choice(signs) for _ in range(width)])


def source_of(seed):
    return random.Random(f"deltawires {seed}")


def filled(value):
    """The fillings, reckoned from the words of the document alone."""
    return [
        number for number in texts("01", len(value))
        if all(sign == bit for sign, bit in zip(value, number) if sign in "01")
    ]
