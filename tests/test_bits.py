"""Points [5] and [6]: values, and what several of them give together."""

import itertools
import unittest

from deltawires.bits import (
    WIDEST, covers, fillings, is_value, mixed, number_of, read, resolved, value_of,
)
from deltawires.errors import NoNumber, NoValue
from samples import NO_TEXTS, SIGNS, drawn_value, filled, source_of, texts, values_of_width

WIDTHS = range(1, 9)


class IsValue(unittest.TestCase):
    def check_text(self, text, expected):
        """Without a width, by 0, and by each width."""
        self.assertIs(is_value(text), expected, text)
        self.assertIs(is_value(text, width=0), expected, text)
        for width in WIDTHS:
            self.assertIs(is_value(text, width=width), expected and len(text) == width, (text, width))

    def test_widest(self):
        self.assertEqual(WIDEST, 8)
        self.assertIs(type(WIDEST), int)

    def test_texts_of_none_to_ten_signs(self):
        source = source_of("lengths")
        for length in range(11):
            for sign in SIGNS:
                self.check_text(sign * length, 1 <= length <= 8)
            for _ in range(20):
                self.check_text(drawn_value(source, length), 1 <= length <= 8)

    def test_long_texts(self):
        for length in (11, 16, 100, 6000):
            self.check_text("01xz" * length, False)

    def test_all_short_texts(self):
        for length in (1, 2, 3):
            for text in values_of_width(length):
                self.check_text(text, True)

    def test_another_sign_anywhere(self):
        others = " \nXZabyowl29/3-+_.,'()\"\\~!"
        for length in (0, 1, 2, 4, 7, 8):
            for other in others:
                for at in range(length + 1):
                    self.check_text("01xz01xz"[:at] + other + "x10z01xz"[at:length], False)

    def test_every_sign_alone(self):
        for number in range(32, 127):
            self.check_text(chr(number), chr(number) in SIGNS)
        self.check_text("\n", False)

    def test_blanks_and_line_feeds_around(self):
        for text in ("01 ", " 01", "0 1", "01\n", "\n01", "0\n1"):
            self.check_text(text, False)

    def test_words_that_python_reads_as_numbers(self):
        for text in ("0b1", "0o1", "1_0", "+1", "-1", "1e0"):
            self.check_text(text, False)
        self.check_text("0x1", True)

    def test_what_is_no_text(self):
        for thing in NO_TEXTS:
            self.assertIs(is_value(thing), False)
            for width in range(9):
                self.assertIs(is_value(thing, width=width), False)


class Read(unittest.TestCase):
    def test_each_z_is_x(self):
        for width in (1, 2, 3, 4):
            for value in values_of_width(width):
                expected = "".join(["x" if sign == "z" else sign for sign in value])
                self.assertEqual(read(value), expected)

    def test_widest(self):
        self.assertEqual(read("zzzzzzzz"), "xxxxxxxx")
        self.assertEqual(read("01xz01xz"), "01xx01xx")
        self.assertEqual(read("01010011"), "01010011")


class Fillings(unittest.TestCase):
    def test_small_ones_written_out(self):
        self.assertEqual(fillings("0"), ["0"])
        self.assertEqual(fillings("x"), ["0", "1"])
        self.assertEqual(fillings("z"), ["0", "1"])
        self.assertEqual(fillings("x0z"), ["000", "001", "100", "101"])

    def check_value(self, value):
        told = fillings(value)
        self.assertIs(type(told), list)
        self.assertEqual(told, filled(value))
        self.assertEqual(told, sorted(set(told)))

    def test_all_small_values(self):
        for width in (1, 2, 3, 4):
            for value in values_of_width(width):
                self.check_value(value)

    def test_drawn_values_of_every_width(self):
        source = source_of("fillings")
        for width in WIDTHS:
            for _ in range(40):
                self.check_value(drawn_value(source, width))

    def test_all_bits_unknown_or_told(self):
        for width in WIDTHS:
            for sign in SIGNS:
                self.check_value(sign * width)
            self.assertEqual(len(fillings("x" * width)), 2 ** width)


class Numbers(unittest.TestCase):
    def test_there_and_back(self):
        for width in WIDTHS:
            for number, value in enumerate(texts("01", width)):
                self.assertEqual(value_of(number, width=width), value)
                self.assertEqual(number_of(value), number)
                self.assertIs(type(number_of(value)), int)

    def test_left_out_the_width_is_the_widest(self):
        for number in range(256):
            self.assertEqual(value_of(number), value_of(number, width=8))
        self.assertEqual(value_of(5), "00000101")

    def test_no_number_where_a_bit_is_not_told(self):
        for width in (1, 2, 3, 4):
            for value in values_of_width(width):
                if "x" in value or "z" in value:
                    with self.assertRaises(NoNumber):
                        number_of(value)

    def test_no_number_wherever_the_bit_stands(self):
        for width in WIDTHS:
            for at in range(width):
                for sign in "xz":
                    for told in "01":
                        with self.assertRaises(NoNumber):
                            number_of(told * at + sign + told * (width - at - 1))

    def test_no_value_below_nought_or_too_great(self):
        for width in WIDTHS:
            top = 2 ** width
            for number in (-1, -2, -top, 1 - top, -10 ** 50, top, top + 1, 2 * top, 10 ** 50, 10 ** 6000):
                with self.assertRaises(NoValue):
                    value_of(number, width=width)

    def test_no_value_beyond_the_widest(self):
        for number in (-1, 256, 257, 1000, 10 ** 6000, -10 ** 6000):
            with self.assertRaises(NoValue):
                value_of(number)

    def test_no_value_of_what_is_no_whole_number(self):
        wrong = [thing for thing in NO_TEXTS if type(thing) is not int] + ["", "0", "1", "01", "00000001", "x"]
        for thing in wrong:
            with self.subTest(thing=thing):
                with self.assertRaises(NoValue):
                    value_of(thing)
                for width in WIDTHS:
                    with self.assertRaises(NoValue):
                        value_of(thing, width=width)


class Covers(unittest.TestCase):
    def expected(self, one, other):
        return all(there == sign for sign, there in zip(one, other) if sign in "01")

    def test_all_pairs_of_small_widths(self):
        for width in (1, 2, 3):
            for one, other in itertools.product(values_of_width(width), repeat=2):
                self.assertIs(covers(one, other), self.expected(one, other), (one, other))

    def test_drawn_pairs(self):
        source = source_of("covers")
        for width in WIDTHS:
            for _ in range(60):
                other = drawn_value(source, width)
                one = "".join([source.choice([sign, sign, "x", "z", "0"]) for sign in other])
                self.assertIs(covers(one, other), self.expected(one, other), (one, other))

    def test_a_value_covers_its_fillings_and_no_other_number(self):
        for value in values_of_width(3):
            for number in texts("01", 3):
                self.assertIs(covers(value, number), number in fillings(value))

    def test_of_unlike_widths_none_covers_the_other(self):
        for one, other in (("x", "xx"), ("xx", "x"), ("1", "11"), ("0x", "0")):
            self.assertIs(covers(one, other), False)


class Mixed(unittest.TestCase):
    def expected(self, one, other):
        return "".join([
            sign if sign in "01" and sign == there else "x" for sign, there in zip(one, other)
        ])

    def test_all_pairs_of_small_widths(self):
        for width in (1, 2, 3):
            for one, other in itertools.product(values_of_width(width), repeat=2):
                self.assertEqual(mixed(one, other), self.expected(one, other))

    def test_drawn_pairs(self):
        source = source_of("mixed")
        for width in WIDTHS:
            for _ in range(60):
                one, other = drawn_value(source, width), drawn_value(source, width)
                self.assertEqual(mixed(one, other), self.expected(one, other))

    def test_z_in_both_is_x(self):
        self.assertEqual(mixed("zz01", "zx01"), "xx01")


class Resolved(unittest.TestCase):
    def expected_sign(self, signs):
        driving = set(signs) - {"z"}
        if driving == set():
            return "z"
        return "0" if driving == {"0"} else "1" if driving == {"1"} else "x"

    def check(self, values):
        expected = "".join([self.expected_sign(signs) for signs in zip(*values)])
        self.assertEqual(resolved(values), expected, values)

    def test_one_is_itself(self):
        for width in (1, 2, 3):
            for value in values_of_width(width):
                self.assertEqual(resolved([value]), value)
        self.assertEqual(resolved(["01xz01xz"]), "01xz01xz")

    def test_all_of_several(self):
        for many in (2, 3, 4):
            for values in itertools.product(SIGNS, repeat=many):
                self.check(list(values))
        for many in (2, 3):
            for values in itertools.product(values_of_width(2), repeat=many):
                self.check(list(values))

    def test_up_to_eight_with_z_in_none_some_and_all(self):
        source = source_of("resolved")
        for many in range(1, 9):
            for width in WIDTHS:
                for signs in ("01", "0x", "01x", "0z", "1z", "zzz1", "zzzx", "01xz", "z"):
                    self.check([drawn_value(source, width, signs) for _ in range(many)])

    def test_one_that_parts_among_eight(self):
        for sign in SIGNS:
            for other in SIGNS:
                for at in range(8):
                    self.check([sign] * at + [other] + [sign] * (7 - at))


if __name__ == "__main__":
    unittest.main()
