"""Point [9]: terms as texts, and back."""

import unittest

from deltawires.errors import NoText, WireError
from deltawires.terms import is_term
from deltawires.termtexts import read_term, term_text
from drawing import A, NO_NAMES, WITHIN, drawn_great_term, drawn_term, fan, nested
from samples import NO_TEXTS, source_of

WIDTHS = {"a": 1, "ab": 1, "b": 2, "b1": 3, "x": 1, "abcdefgh": 4, "w8": 8}

WRITTEN = (
    (("is", "0"), "'0"),
    (("is", "x1"), "'x1"),
    (("is", "01x01x01"), "'01x01x01"),
    (("of", "a"), "a"),
    (("of", "x"), "x"),
    (("of", "abcdefg8"), "abcdefg8"),
    (("not", A), "not(a)"),
    (("any", A), "any(a)"),
    (("all", A), "all(a)"),
    (("and", A, ("of", "b")), "and(a, b)"),
    (("or", A, ("is", "1")), "or(a, '1)"),
    (("xor", ("is", "x"), A), "xor('x, a)"),
    (("plus", A, A), "plus(a, a)"),
    (("same", A, A), "same(a, a)"),
    (("less", A, A), "less(a, a)"),
    (("join", A, ("of", "b")), "join(a, b)"),
    (("part", A, 0, 0), "part(a, 0, 0)"),
    (("part", A, 7, 7), "part(a, 7, 7)"),
    (("part", ("not", A), 5, 2), "part(not(a), 5, 2)"),
    (("pick", A, ("is", "x1"), ("part", ("of", "b"), 3, 2)), "pick(a, 'x1, part(b, 3, 2))"),
    (("not", ("not", ("join", ("part", A, 1, 0), ("any", A)))), "not(not(join(part(a, 1, 0), any(a))))"),
)

SPOILT = (
    "", " ", "\n", "'", "''0", "'z", "'0z", "'2", "'000000000", "' 0", "'0'", "0", "01", "1a", "A", "a_b", "abcdefghi",
    "a b", "a,b", "a, b", "a(b)", "(a)", "()", "not", "not(", "not)", "not()", "not(a", "not a", "not(a))", "not((a))",
    "not(a,)", "not(a, )", "not(a, b)", "not (a)", "not( a)", "not(a )", "not(a) ", " not(a)", "not(a)\n", "\nnot(a)",
    "and(a)", "and(a,b)", "and(a , b)", "and(a,  b)", "and(a, b, c)", "and(a; b)", "and(a b)", "and(, )", "and(, a)",
    "and(a, b)c", "and(a, b)and(a, b)", "and(a, b), a", "pick(a, b)", "pick(a, b, c, d)", "pick(a, b, c",
    "pick(a, (b, c))",
    "is", "of", "at", "filters", "later", "is(0)", "of(a)", "is('0)", "is '0", "of a", "later(a)", "not(is)", "not(at)",
    "and(not, a)", "and(or, and)", "part(a)", "part(a, 1)", "part(a, 1, 0, 0)", "part(a, 0, 1)", "part(a, 8, 0)",
    "part(a, 8, 8)", "part(a, 1, -1)", "part(a, -1, -1)", "part(a, 01, 0)", "part(a, 1, 00)", "part(a, +1, 0)",
    "part(a, 1,0)", "part(a,1, 0)", "part(a, 1, 0", "part(a, 1, )", "part(a, , 0)", "part(a, b, 0)", "part(a, 1, b)",
    "part(a, '1, 0)", "part(1, 0, a)", "part(a, 1.0, 0)", "part(a, 10, 0)", "part(a, 1_0, 0)", "part(a, 1, 0 )",
    "part(a, True, 0)", "part(, 1, 0)", "Not(a)", "NOT(a)", "nand(a, b)", "minus(a, b)", "most(a, b, c)", "read(a)",
    "('is', '0')", "\"a\"", "not('0", "not(')", "not('z)", "and(a, 'z)", "a'", "a'0", "'0a", "'0, '1", "not(a)(b)",
    "-a", "~a",
)


class Written(unittest.TestCase):
    def test_there_and_back(self):
        for term, text in WRITTEN:
            self.assertEqual(term_text(term), text)
            self.assertEqual(read_term(text), term)

    def test_each_operator(self):
        for word, many in WITHIN.items():
            names = ["c", "ab", "c"][:many]
            term = (word, *[("of", name) for name in names])
            self.assertEqual(term_text(term), f"{word}({', '.join(names)})")
            self.assertEqual(read_term(term_text(term)), term)

    def test_each_high_and_low(self):
        for high in range(10):
            for low in range(10):
                text = f"part(a, {high}, {low})"
                if low <= high <= 7:
                    self.assertEqual(read_term(text), ("part", A, high, low))
                    self.assertEqual(term_text(("part", A, high, low)), text)
                else:
                    with self.assertRaises(NoText):
                        read_term(text)

    def test_high_and_low_that_are_read_are_whole_numbers(self):
        for high, low in ((0, 0), (1, 0), (1, 1)):
            term = read_term(f"part(a, {high}, {low})")
            self.assertEqual([type(part) for part in term], [str, tuple, int, int])

    def test_terms_that_fit_no_widths(self):
        for term in (("join", ("is", "00000000"), ("is", "0")), ("and", ("is", "0"), ("is", "00")),
                     ("part", ("is", "0"), 7, 7)):
            self.assertEqual(read_term(term_text(term)), term)

    def test_drawn(self):
        source = source_of("term texts")
        for _ in range(400):
            term = drawn_term(source, WIDTHS, source.randrange(1, 6), deep=source.randrange(1, 6))
            if is_term(term):
                self.assertEqual(read_term(term_text(term)), term)

    def test_deep_and_great(self):
        source = source_of("great term texts")
        for _ in range(15):
            term = drawn_great_term(source, WIDTHS, 3, 45)
            self.assertEqual(read_term(term_text(term)), term)
        for term in (nested(10), nested(10, ("is", "01x01x01")), fan(60), fan(59), ("and", nested(9), fan(50))):
            self.assertEqual(read_term(term_text(term)), term)
        self.assertEqual(term_text(nested(10)), "not(" * 9 + "a" + ")" * 9)


class Refused(unittest.TestCase):
    def refused(self, thing):
        with self.assertRaises(NoText, msg=thing):
            read_term(thing)

    def test_spoilt(self):
        for text in SPOILT:
            self.refused(text)

    def test_names_that_are_none(self):
        for name in NO_NAMES:
            self.refused(name)
            self.refused(f"not({name})")

    def test_beyond_the_bounds(self):
        for many in range(1, 41):
            text = "not(" * (many - 1) + "a" + ")" * (many - 1)
            if many <= 10:
                self.assertEqual(read_term(text), nested(many))
            else:
                self.refused(text)
        for many in range(50, 70):
            if many <= 60:
                self.assertEqual(read_term(term_text(fan(many))), fan(many))
            else:
                self.refused(term_text(fan(many)))

    def test_thousands_of_brackets(self):
        for many in (100, 1000, 1400, 5000, 100000):
            self.refused("not(" * many + "a" + ")" * many)
            self.refused("not(" * many)
            self.refused("(" * many)
            self.refused(")" * many)
            self.refused("(" * many + ")" * many)
            self.refused("and(a, " * many + "a" + ")" * many)
            self.refused("and(" * many + "a" + ", a)" * many)
            self.refused("part(" * many + "a" + ", 1, 0)" * many)
            self.refused("not(a" + ")" * many)
            self.refused("a(" * many)

    def test_long_ones(self):
        for text in ("a" * 6000, "'" + "0" * 6000, "'" * 6000, "0" * 6000, " " * 6000, "part(a, " + "1" * 5000 + ", 0)",
                     "part(a, 1, " + "0" * 5000 + ")", "and(" + "a, " * 1900 + "a)", "a" + ", a" * 1500):
            self.refused(text)

    def test_what_is_no_text(self):
        for thing in NO_TEXTS + [A, ("is", "0"), ["a"], b"a", [b"a"], {"a": "a"}]:
            self.refused(thing)
        deep = "a"
        for _ in range(39):
            deep = [deep]
        self.refused(deep)

    def test_its_class(self):
        with self.assertRaises(WireError):
            read_term("not(")

    def check_text(self, text):
        """A text is read just where something is so written."""
        try:
            term = read_term(text)
        except NoText:
            return 0
        self.assertIs(is_term(term), True, text)
        self.assertEqual(term_text(term), text)
        return 1

    def test_one_sign_put_in_taken_out_or_put_otherwise(self):
        signs = " \n'(),0157abnxz;:_A~"
        read_ones = 0
        for _, text in WRITTEN:
            for at in range(len(text) + 1):
                read_ones += self.check_text(text[:at] + text[at + 1:])
                read_ones += sum([self.check_text(text[:at] + sign + text[at:]) for sign in signs])
                read_ones += sum([self.check_text(text[:at] + sign + text[at + 1:]) for sign in signs])
        self.assertGreater(read_ones, 500)

    def test_a_sign_that_has_no_place(self):
        for term, text in WRITTEN:
            for at in range(len(text) + 1):
                for sign in "\n;:_A~\"-":
                    self.refused(text[:at] + sign + text[at:])
            for at, sign in enumerate(text):
                if sign in "() ,":
                    self.refused(text[:at] + text[at + 1:])
            for sign in " \n":
                self.refused(text + sign)
                self.refused(sign + text)

    def test_beginnings_and_ends_of_texts(self):
        for _, text in WRITTEN:
            for at in range(len(text)):
                self.check_text(text[:at])
                self.check_text(text[at:])

    def test_two_signs_put_the_other_way_about(self):
        for _, text in WRITTEN:
            for at in range(len(text) - 1):
                self.check_text(text[:at] + text[at + 1] + text[at] + text[at + 2:])

    def test_a_refusal_between_changes_nothing(self):
        for term, text in WRITTEN:
            self.refused(text + ")")
            self.assertEqual(read_term(text), term)


if __name__ == "__main__":
    unittest.main()
