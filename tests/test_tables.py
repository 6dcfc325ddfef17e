"""Point [7], and what [4] says of operators: each bit is told just where all fillings have it alike."""

import itertools
import unittest

from deltawires.tables import WORDS, operated
from oracles import ON_TOLD, by_fillings
from samples import SIGNS, drawn_value, source_of, texts, values_of_width

WIDTHS = range(1, 9)
PAIRED = ("and", "or", "xor", "plus", "same", "less")
ALONE = ("not", "any", "all")


class Operators(unittest.TestCase):
    def check(self, word, values):
        self.assertEqual(operated(word, values), by_fillings(ON_TOLD[word], values), (word, values))

    def check_part(self, value, high, low):
        numbered = value[::-1].replace("z", "x")
        expected = "".join([numbered[at] for at in range(high, low - 1, -1)])
        self.assertEqual(operated("part", [value], high=high, low=low), expected, (value, high, low))


class Words(unittest.TestCase):
    def test_words_are_the_twelve(self):
        self.assertIs(type(WORDS), tuple)
        self.assertEqual(sorted(WORDS), sorted(list(ON_TOLD) + ["part"]))
        self.assertEqual(len(WORDS), 12)


class AllSmall(Operators):
    def test_of_one_argument(self):
        for word in ALONE:
            for width in (1, 2, 3, 4):
                for value in values_of_width(width):
                    self.check(word, [value])

    def test_of_two_arguments(self):
        for word in PAIRED:
            for width in (1, 2, 3):
                for one, other in itertools.product(values_of_width(width), repeat=2):
                    self.check(word, [one, other])

    def test_pick(self):
        for width in (1, 2):
            for choice in SIGNS:
                for one, other in itertools.product(values_of_width(width), repeat=2):
                    self.check("pick", [choice, one, other])

    def test_join(self):
        for first, second in itertools.product((1, 2, 3), repeat=2):
            for one, other in itertools.product(values_of_width(first), values_of_width(second)):
                self.assertEqual(operated("join", [one, other]), (one + other).replace("z", "x"))

    def test_part(self):
        for width in (1, 2, 3, 4):
            for value in values_of_width(width):
                for high in range(width):
                    for low in range(high + 1):
                        self.check_part(value, high, low)


class DrawnWide(Operators):
    def draw(self, source, width):
        """Few unknown bits as often as many, so that wide results are not all x."""
        return drawn_value(source, width, source.choice(["01", "00000x", "11111z", "0101x", "01xz"]))

    def test_of_one_argument(self):
        source = source_of("alone")
        for word in ALONE:
            for width in WIDTHS:
                for _ in range(40):
                    self.check(word, [self.draw(source, width)])

    def test_of_two_arguments(self):
        source = source_of("paired")
        for word in PAIRED:
            for width in WIDTHS:
                for _ in range(40):
                    self.check(word, [self.draw(source, width), self.draw(source, width)])

    def test_pick(self):
        source = source_of("pick")
        for width in WIDTHS:
            for choice in SIGNS:
                for _ in range(20):
                    one = self.draw(source, width)
                    other = "".join([source.choice([sign, sign, "x", "0"]) for sign in one])
                    self.check("pick", [choice, one, other])

    def test_join_up_to_eight_bits_together(self):
        source = source_of("join")
        for first in range(1, 8):
            for second in range(1, 9 - first):
                for _ in range(10):
                    self.check("join", [self.draw(source, first), self.draw(source, second)])

    def test_part(self):
        source = source_of("part")
        for width in WIDTHS:
            for high in range(width):
                for low in range(high + 1):
                    self.check_part(drawn_value(source, width), high, low)

    def test_nearly_the_same(self):
        source = source_of("near")
        for word in PAIRED:
            for width in WIDTHS:
                for _ in range(20):
                    one = drawn_value(source, width, "0011x")
                    other = "".join([source.choice([sign] * 6 + ["x", "1"]) for sign in one])
                    self.check(word, [one, other])

    def test_all_bits_unknown(self):
        for word in PAIRED:
            for sign in "xz":
                self.check(word, [sign * 6, "x" * 6])
            self.check(word, ["x" * 8, "00000000"])
            self.check(word, ["11111111", "z" * 8])
        for word in ALONE:
            for sign in SIGNS:
                self.check(word, [sign * 8])


class SameTwice(Operators):
    def test_the_very_same_value_goes_by_itself_each_time(self):
        for word in PAIRED:
            for width in (1, 2, 3):
                for value in values_of_width(width):
                    self.check(word, [value, value])
        self.assertEqual(operated("xor", ["x", "x"]), "x")
        self.assertEqual(operated("same", ["1x", "1x"]), "x")
        self.assertEqual(operated("less", ["x0", "x0"]), "x")
        self.assertEqual(operated("plus", ["0x", "0x"]), "xx")

    def test_pick_and_join(self):
        for value in values_of_width(2):
            for choice in SIGNS:
                self.check("pick", [choice, value, value])
            self.check("join", [value, value])
        for value in SIGNS:
            self.check("pick", [value, value, value])


class Written(Operators):
    """Some written out, so that a fault in the reckoning above does not hide one in the program."""

    def test_told(self):
        self.assertEqual(operated("not", ["0110"]), "1001")
        self.assertEqual(operated("and", ["0011", "0101"]), "0001")
        self.assertEqual(operated("or", ["0011", "0101"]), "0111")
        self.assertEqual(operated("xor", ["0011", "0101"]), "0110")
        self.assertEqual(operated("plus", ["11111111", "00000001"]), "00000000")
        self.assertEqual(operated("plus", ["0011", "0101"]), "1000")
        self.assertEqual(operated("less", ["0011", "0101"]), "1")
        self.assertEqual(operated("less", ["0101", "0101"]), "0")
        self.assertEqual(operated("same", ["0101", "0101"]), "1")
        self.assertEqual(operated("pick", ["1", "00", "11"]), "00")
        self.assertEqual(operated("pick", ["0", "00", "11"]), "11")
        self.assertEqual(operated("join", ["10", "1"]), "101")
        self.assertEqual(operated("part", ["10010111"], high=4, low=2), "101")
        self.assertEqual(operated("part", ["10010110"]), "0")
        self.assertEqual(operated("part", ["01111111"], high=7, low=7), "0")

    def test_unknown(self):
        self.assertEqual(operated("not", ["01xz"]), "10xx")
        self.assertEqual(operated("and", ["0x1z", "zz01"]), "0x0x")
        self.assertEqual(operated("or", ["0x1z", "zzz1"]), "xx11")
        self.assertEqual(operated("plus", ["0x01", "0x01"]), "xx10")
        self.assertEqual(operated("plus", ["011x", "0001"]), "xxxx")
        self.assertEqual(operated("less", ["0x1", "1xx"]), "1")
        self.assertEqual(operated("less", ["1x1", "0xx"]), "0")
        self.assertEqual(operated("less", ["01x", "011"]), "x")
        self.assertEqual(operated("less", ["11x", "110"]), "0")
        self.assertEqual(operated("same", ["0x1", "1x1"]), "0")
        self.assertEqual(operated("any", ["0x1z"]), "1")
        self.assertEqual(operated("all", ["0x1z"]), "0")
        self.assertEqual(operated("pick", ["z", "01xz", "11xz"]), "x1xx")
        self.assertEqual(operated("pick", ["1", "01xz", "1111"]), "01xx")
        self.assertEqual(operated("join", ["1z", "x0"]), "1xx0")
        self.assertEqual(operated("part", ["1z01"], high=2, low=1), "x0")

    def test_all_numbers_of_width_two(self):
        for one, other in itertools.product(texts("01", 2), repeat=2):
            for word in PAIRED:
                self.check(word, [one, other])


if __name__ == "__main__":
    unittest.main()
