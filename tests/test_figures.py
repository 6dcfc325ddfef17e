"""Whole numbers in figures, as points [24] and [26] have them."""

import unittest

from deltawires.figures import is_whole_text, whole_of
from samples import source_of


class Figures(unittest.TestCase):
    def test_as_str_writes_them(self):
        for number in (0, 1, 9, 10, 99, 10 ** 30, 10 ** 59, 10 ** 60 - 1, 10 ** 60, 10 ** 61 + 7, 10 ** 4000):
            for whole in (number, -number):
                self.assertIs(is_whole_text(str(whole)), True)
                self.assertEqual(whole_of(str(whole)), whole)

    def test_not_so(self):
        for word in ("", "-", "--1", "-0", "00", "01", "-01", "+1", " 1", "1 ", "1\n", "1.0", "1e3", "1_0", "0x1", "a",
                     "1-", "1-2", "x", "None"):
            self.assertIs(is_whole_text(word), False, word)

    def test_more_figures_than_int_takes(self):
        source = source_of("many figures")
        for many in (4299, 4300, 4301, 5000, 5999):
            figures = "".join([source.choice("123456789")] + [source.choice("0123456789") for _ in range(many - 1)])
            number = 0
            for figure in figures:
                number = number * 10 + int(figure)
            self.assertEqual((whole_of(figures), whole_of("-" + figures)), (number, -number))
            self.assertIs(is_whole_text(figures), True)
            self.assertIs(is_whole_text("-" + figures), True)
            self.assertIs(is_whole_text("0" + figures), False)


if __name__ == "__main__":
    unittest.main()
