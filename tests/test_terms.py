"""Point [8], and what [4] says of terms."""

import itertools
import string
import unittest

from deltawires.errors import NoTerm, WireError
from deltawires.terms import is_name, is_term, names_in, times_in, value_of_term, width_of
from drawing import (
    A, NO_NAMES, PAIRED, WITHIN, ZERO, depth_of, drawn_great_term, drawn_term, fan, nested, small_term, tuples_of,
)
from oracles import read_value, term_names, term_value
from samples import NO_TEXTS, drawn_value, filled, source_of, values_of_width


class IsName(unittest.TestCase):
    def test_lengths(self):
        for length in range(12):
            for text in ("a" * length, "z9"[:length] + "b" * (length - 2), "q" + "0" * (length - 1) if length else ""):
                self.assertIs(is_name(text), 1 <= len(text) <= 8, text)
        self.assertIs(is_name("a" * 6000), False)

    def test_each_sign_alone_ahead_and_behind(self):
        for number in [10] + list(range(32, 127)):
            sign = chr(number)
            letter = sign in string.ascii_lowercase
            figure = sign in string.digits
            self.assertIs(is_name(sign), letter, sign)
            self.assertIs(is_name(sign + "b"), letter, sign)
            self.assertIs(is_name(sign + "bcdefgh"), letter, sign)
            for text in ("b" + sign, "b" + sign + "c", "bcdefgh" + sign, "b0" + sign + "0"):
                self.assertIs(is_name(text), letter or figure, text)

    def test_first_figure(self):
        for figure in string.digits:
            for rest in ("", "a", "1", "aaaaaaa"):
                self.assertIs(is_name(figure + rest), False)
                self.assertIs(is_name("a" + figure + rest[:6]), True)

    def test_kept_words(self):
        for word in NO_NAMES:
            self.assertIs(is_name(word), False, word)

    def test_what_only_looks_like_a_kept_word(self):
        for word in NO_NAMES:
            for text in (word + "a", word + "0", "a" + word, word[:-1], word[1:]):
                expected = 1 <= len(text) <= 8 and text not in NO_NAMES
                self.assertIs(is_name(text), expected, text)

    def test_other_words_of_the_document_are_names(self):
        for text in ("now", "if", "else", "block", "input", "wire", "bus", "filter", "kept", "rise", "fall", "x", "z",
                     "x1", "most", "bit", "read", "set", "go", "show", "all1", "wave", "text", "begun", "over", "none"):
            self.assertIs(is_name(text), True, text)

    def test_what_is_no_text(self):
        for thing in NO_TEXTS + [["a"], ("a",), {"a": 1}, b"a", [["a"]]]:
            self.assertIs(is_name(thing), False)


class IsTerm(unittest.TestCase):
    def yes(self, thing):
        self.assertIs(is_term(thing), True, thing)

    def no(self, thing):
        self.assertIs(is_term(thing), False, thing)

    def test_values(self):
        for width in (1, 2, 3):
            for value in values_of_width(width):
                self.assertIs(is_term(("is", value)), "z" not in value, value)
        for value in ("01x01x01", "xxxxxxxx", "00000000"):
            self.yes(("is", value))
        for value in ("", "01x01x01z", "000000000", "0000000z", "2", "a", " 0", "0\n", "X", 0, 1, None, ("0",), ["0"],
                      b"0"):
            self.no(("is", value))

    def test_names(self):
        for name in ("a", "abcdefgh", "a1234567", "nots", "late"):
            self.yes(("of", name))
        for name in NO_NAMES + ("", "1a", "A", "a_b", "abcdefghi", None, 5, ("a",), ["a"], {"a": 1}, b"a", A):
            self.no(("of", name))

    def test_each_operator_with_each_number_of_arguments(self):
        for word, many in WITHIN.items():
            for count in range(7):
                self.assertIs(is_term((word,) + (A,) * count), count == many, (word, count))

    def test_words(self):
        for word in ("", "Not", "nand", "nots", "minus", "read", "most", "bit", "bus", "now", "later", "at", "filters",
                     None, 0, True, ("not",), ["not"], b"not", {"not": 1}):
            for many in range(5):
                self.no((word,) + (A,) * many)

    def test_is_and_of_with_more_or_less(self):
        for word, thing in (("is", "0"), ("of", "a")):
            self.no((word,))
            self.no((word, thing, thing))
            self.no((word, thing, None))
            self.no((word, thing, A))
            self.no((word, (word, thing)))

    def test_each_place_must_be_a_term(self):
        wrong = [None, "a", "0", 0, True, (), [], ["of", "a"], ("of",), ("of", "A"), {}, ("a",), [A], (A,), ("is", "z")]
        for word, many in WITHIN.items():
            for at in range(many):
                for thing in wrong:
                    parts = [A] * many
                    parts[at] = thing
                    self.no((word, *parts))
                    self.no(("not", ("and", (word, *parts), A)))
                    self.no(("and", A, ("not", (word, *parts))))
        for thing in wrong:
            self.no(("part", thing, 0, 0))
            self.no(thing)

    def test_lists_in_the_place_of_tuples(self):
        for term in (A, ZERO, ("not", A), ("and", A, ZERO), ("pick", A, A, A), ("part", A, 0, 0)):
            self.yes(term)
            self.no(list(term))
            self.no(("not", list(term)))
            self.no(["not", term])

    def test_high_and_low(self):
        for high in range(-3, 12):
            for low in range(-3, 12):
                self.assertIs(is_term(("part", A, high, low)), 0 <= low <= high <= 7, (high, low))
        self.no(("part", A, 10 ** 50, 0))
        self.no(("part", A, 0, -10 ** 50))

    def test_high_and_low_of_other_kinds(self):
        for thing in (True, False, None, "0", "1", (0,), [0], A, b"0", {}):
            self.no(("part", A, thing, 0))
            self.no(("part", A, 1, thing))
            self.no(("part", A, thing, thing))
        self.yes(("part", A, 1, 1))
        self.yes(("part", A, 1, 0))

    def test_part_with_more_or_less(self):
        for thing in (("part",), ("part", A), ("part", A, 1), ("part", A, 1, 0, 0), ("part", A, A, 1, 0),
                      ("part", 1, 0),
                      ("part", 1, 0, A), ("part", 1, A, 0)):
            self.no(thing)

    def test_sixty_and_sixty_one_tuples(self):
        for many in range(1, 70):
            term = fan(many)
            self.assertEqual(tuples_of(term), many)
            self.assertLess(depth_of(term), 10)
            self.assertIs(is_term(term), many <= 60, many)

    def test_sixty_and_sixty_one_in_other_shapes(self):
        for left in range(1, 59, 7):
            self.yes(("and", fan(left), fan(59 - left)))
            self.no(("and", fan(left), fan(60 - left)))
            self.yes(("pick", fan(3), fan(left), fan(56 - left)) if left < 56 else fan(60))
            self.no(("pick", fan(3), fan(left), fan(57 - left)) if left < 57 else fan(61))
        self.yes(("part", fan(59), 0, 0))
        self.no(("part", fan(60), 0, 0))

    def test_ten_and_eleven_within_one_another(self):
        for many in range(1, 41):
            self.assertIs(is_term(nested(many)), many <= 10, many)
            self.assertIs(is_term(nested(many, ZERO)), many <= 10, many)
        self.yes(("part", nested(9), 0, 0))
        self.no(("part", nested(10), 0, 0))
        for word, many in WITHIN.items():
            for at in range(many):
                for deep in (9, 10):
                    parts = [A] * many
                    parts[at] = nested(deep)
                    self.assertIs(is_term((word, *parts)), deep == 9, (word, at))

    def test_deep_and_many_at_once(self):
        self.yes(("and", nested(9), fan(50)))
        self.no(("and", nested(9), fan(51)))
        self.no(("and", nested(10), fan(21)))

    def test_one_tuple_that_stands_very_often(self):
        for word, many in WITHIN.items():
            term = A
            for _ in range(38):
                term = (word,) + (term,) * many
            self.no(term)
        twice = ("and", A, A)
        for _ in range(3):
            twice = ("and", twice, twice)
        self.yes(twice)
        self.yes(("or", ("not", twice), ("not", ("and", nested(3), fan(21)))))

    def test_widths_have_no_bearing(self):
        self.yes(("join", ("is", "00000000"), ("is", "11111111")))
        self.yes(("and", ("is", "0"), ("is", "11")))
        self.yes(("pick", ("is", "00"), ("is", "1"), ("is", "000")))
        self.yes(("part", ("is", "0"), 7, 7))

    def test_other_things(self):
        for thing in NO_TEXTS + ["", "a", "is", "of", "'0", ((),), ((A,),), ("is", ("is", "0")), {"is": "0"}, ("is",)]:
            self.no(thing)

    def test_deep_things_that_are_no_terms(self):
        for make in (lambda inner: [inner], lambda inner: (inner,), lambda inner: {"a": inner},
                     lambda inner: ("of", inner),
                     lambda inner: ("is", inner), lambda inner: ("part", inner), lambda inner: ("and", inner, [inner])):
            thing = None
            for _ in range(39):
                thing = make(thing)
            self.no(thing)
            self.no(("not", thing))


class WidthOf(unittest.TestCase):
    names = {f"w{width}": width for width in range(1, 9)}

    def of(self, width):
        return ("of", f"w{width}")

    def check(self, term, expected):
        """The expected width, or None where it does not fit."""
        if expected is None:
            with self.assertRaises(NoTerm):
                width_of(term, self.names)
        else:
            told = width_of(term, self.names)
            self.assertEqual(told, expected, term)
            self.assertIs(type(told), int)

    def test_values_and_names(self):
        for width in range(1, 9):
            self.check(("is", "x" * width), width)
            self.check(self.of(width), width)

    def test_of_one_argument(self):
        for width in range(1, 9):
            self.check(("not", self.of(width)), width)
            self.check(("any", self.of(width)), 1)
            self.check(("all", self.of(width)), 1)

    def test_of_two_arguments(self):
        for one, other in itertools.product(range(1, 9), repeat=2):
            for word in ("and", "or", "xor", "plus"):
                self.check((word, self.of(one), self.of(other)), one if one == other else None)
            for word in ("same", "less"):
                self.check((word, self.of(one), self.of(other)), 1 if one == other else None)
            self.check(("join", self.of(one), self.of(other)), one + other if one + other <= 8 else None)

    def test_pick(self):
        for choice, one, other in itertools.product(range(1, 9), repeat=3):
            fits = choice == 1 and one == other
            self.check(("pick", self.of(choice), self.of(one), self.of(other)), one if fits else None)

    def test_part(self):
        for width, high, low in itertools.product(range(1, 9), range(8), range(8)):
            fits = low <= high < width
            self.check(("part", self.of(width), high, low), high - low + 1 if fits else None)

    def test_what_does_not_fit_deep_within(self):
        wrong = ("and", self.of(1), self.of(2))
        for _ in range(8):
            self.check(wrong, None)
            wrong = ("any", wrong)
        self.check(("or", self.of(1), ("not", ("part", self.of(2), 2, 2))), None)
        self.check(("or", self.of(1), ("not", ("part", self.of(3), 2, 2))), 1)
        self.check(("pick", self.of(1), self.of(2), ("and", self.of(2), self.of(3))), None)
        self.check(("pick", ("and", self.of(1), self.of(2)), self.of(2), self.of(2)), None)

    def test_names_that_have_no_width(self):
        for widths in ({}, {"b": 1}, {"ab": 1, "aa": 1}):
            for term in (A, ("not", A), ("pick", ZERO, ZERO, A), ("part", A, 0, 0)):
                with self.assertRaises(NoTerm):
                    width_of(term, widths)
        self.assertEqual(width_of(ZERO, {}), 1)
        self.assertEqual(width_of(("join", ZERO, ("is", "1x")), {}), 3)

    def test_true_and_false_are_no_widths(self):
        for truth in (True, False):
            for term in (A, ("not", A), ("join", A, A), ("same", A, A), ("part", A, 0, 0), ("pick", A, ZERO, ZERO)):
                with self.assertRaises(NoTerm):
                    width_of(term, {"a": truth})
                self.assertIs(type(width_of(term, {"a": 1})), int)

    def test_no_term(self):
        for thing in NO_TEXTS + ["a", ["of", "a"], ("of",), ("of", "A"), ("is", "z"), nested(11), fan(61), nested(40),
                                 ("not", ["of", "a"]), ("part", A, 0, 1), ("part", A, True, 0), ("part", A, 0, False),
                                 ("nots", A), ("and", A), ("and", A, A, A), ("of", ["a"]), (["of"], "a")]:
            with self.assertRaises(NoTerm):
                width_of(thing, {"a": 1})

    def test_within_the_bounds(self):
        self.assertEqual(width_of(nested(10), {"a": 3}), 3)
        self.assertEqual(width_of(fan(60), {"a": 3}), 3)

    def test_one_tuple_that_stands_very_often(self):
        term = A
        for _ in range(38):
            term = ("pick", term, term, term)
        with self.assertRaises(NoTerm):
            width_of(term, {"a": 1})

    def test_drawn(self):
        source = source_of("widths")
        for _ in range(400):
            width = source.randrange(1, 9)
            term = small_term(source, self.names, width)
            self.check(term, width)

    def test_its_class(self):
        with self.assertRaises(WireError):
            width_of(None, {})


class Names(unittest.TestCase):
    def test_written(self):
        term = ("pick", ("of", "b"), ("and", ("of", "ab"), ("of", "b")), ("join", ("of", "a"), ("not", ("of", "ab"))))
        self.assertEqual(names_in(term), ["b", "ab", "a"])
        self.assertEqual([times_in(term, name) for name in ("a", "b", "ab", "c", "aba")], [1, 2, 2, 0, 0])

    def test_none(self):
        for term in (ZERO, ("not", ZERO), ("part", ("is", "0000"), 3, 1), ("is", "x")):
            self.assertEqual(names_in(term), [])
            self.assertEqual(times_in(term, "x"), 0)
            self.assertEqual(times_in(term, "is"), 0)
            self.assertEqual(times_in(term, "not"), 0)

    def test_from_the_left_not_sorted(self):
        for names in itertools.permutations(["a", "b", "ba", "b1"]):
            first, second, third, fourth = [("of", name) for name in names]
            term = ("or", ("pick", first, second, ("not", third)), ("part", fourth, 3, 2))
            self.assertEqual(names_in(term), list(names))
            self.assertEqual(names_in(("and", term, ("or", fourth, first))), list(names))
            self.assertEqual(times_in(("and", term, ("or", fourth, first)), names[3]), 2)

    def test_names_that_begin_other_names(self):
        names = ["a", "aa", "aaa", "aaaa", "a1", "a11"]
        term = ("of", "aaaaaaaa")
        for name in names:
            term = ("and", ("of", name), term)
        for name in names + ["aaaaaaaa"]:
            self.assertEqual(times_in(term, name), 1)
        self.assertEqual(names_in(term), names[::-1] + ["aaaaaaaa"])
        self.assertEqual(times_in(term, "aaaaa"), 0)

    def test_names_that_look_like_values(self):
        term = ("and", ("of", "x"), ("and", ("is", "x"), ("of", "z")))
        self.assertEqual(names_in(term), ["x", "z"])
        self.assertEqual(times_in(term, "x"), 1)

    def test_drawn(self):
        source = source_of("names")
        widths = {"a": 1, "ab": 1, "b": 2, "b1": 2, "c": 3, "ca": 4}
        for _ in range(200):
            term = drawn_term(source, widths, source.randrange(1, 5), deep=5)
            every = term_names(term)
            self.assertEqual(names_in(term), list(dict.fromkeys(every)))
            for name in list(widths) + ["d"]:
                self.assertEqual(times_in(term, name), every.count(name))

    def test_beyond_the_bounds_no_error(self):
        for term in (nested(14), fan(71)):
            names_in(term)
            times_in(term, "a")
            value_of_term(term, {"a": "0x"})


class Values(unittest.TestCase):
    widths = {"a": 1, "b": 1, "c": 2, "d": 2, "e": 3}

    def drawn_values(self, source, signs="01xz"):
        values = {name: drawn_value(source, self.widths[name], signs) for name in self.widths}
        values["zz"] = "zzzz"
        values["other"] = "01"
        return values

    def test_written(self):
        values = {"a": "1", "b": "x", "c": "0z", "d": "01", "e": "1x0"}
        cases = (
            (("of", "a"), "1"), (("of", "c"), "0x"), (("is", "x1"), "x1"), (("not", ("of", "c")), "1x"),
            (("pick", ("of", "a"), ("of", "c"), ("of", "d")), "0x"),
            (("pick", ("of", "b"), ("of", "c"), ("of", "d")), "0x"),
            (("pick", ("not", ("of", "a")), ("of", "c"), ("of", "d")), "01"),
            (("join", ("of", "c"), ("of", "a")), "0x1"),
            (("part", ("of", "e"), 2, 1), "1x"), (("part", ("of", "e"), 0, 0), "0"), (("part", ("of", "e"), 2, 2), "1"),
            (("plus", ("of", "d"), ("is", "11")), "00"), (("less", ("of", "d"), ("is", "11")), "1"),
            (("same", ("of", "c"), ("is", "11")), "0"), (("any", ("of", "e")), "1"), (("all", ("of", "e")), "0"),
            (("xor", ("of", "b"), ("of", "b")), "x"), (("and", ("of", "b"), ("is", "0")), "0"),
        )
        for term, expected in cases:
            self.assertEqual(value_of_term(term, values), expected, term)

    def test_a_name_is_read(self):
        for width in (1, 2, 3):
            for value in values_of_width(width):
                self.assertEqual(value_of_term(A, {"a": value, "b": "1"}), read_value(value))
        self.assertEqual(value_of_term(A, {"a": "01xz01xz"}), "01xx01xx")

    def test_each_operator_over_all_values(self):
        for word, many in WITHIN.items():
            for values in itertools.product(values_of_width(1), repeat=many):
                named = {f"n{at}": value for at, value in enumerate(values)}
                term = (word, *[("of", name) for name in named])
                self.assertEqual(value_of_term(term, named), term_value(term, named), (term, named))
        for word in PAIRED:
            for values in itertools.product(values_of_width(2), repeat=2):
                named = {"p": values[0], "q": values[1]}
                term = (word, ("of", "p"), ("of", "q"))
                self.assertEqual(value_of_term(term, named), term_value(term, named), (term, named))

    def test_drawn_each_operator_by_the_fillings_of_its_arguments(self):
        source = source_of("values")
        for _ in range(500):
            term = drawn_term(source, self.widths, source.randrange(1, 4), deep=source.choice([2, 3, 4]))
            values = self.drawn_values(source, source.choice(["01", "0011x", "01xz"]))
            self.assertEqual(value_of_term(term, values), term_value(term, values), (term, values))

    def test_so_for_each_filling(self):
        source = source_of("fillings of terms")
        for _ in range(150):
            term = drawn_term(source, self.widths, source.randrange(1, 4), deep=4)
            values = self.drawn_values(source, "000111xz")
            told = value_of_term(term, values)
            names = names_in(term)
            for chosen in itertools.product(*[filled(values[name]) for name in names]):
                filling = value_of_term(term, {**values, **dict(zip(names, chosen))})
                for sign, there in zip(told, filling):
                    self.assertIn(sign, ("x", there), (term, values, chosen))

    def test_without_names_and_with_all_told_each_bit_is_told(self):
        source = source_of("told terms")
        for _ in range(100):
            values = self.drawn_values(source, "01")
            term = drawn_term(source, self.widths, 2, deep=4)
            if "x" not in str(term):
                self.assertNotIn("x", value_of_term(term, values).replace("z", "x"), (term, values))

    def test_great_terms(self):
        source = source_of("great terms")
        for _ in range(10):
            term = drawn_great_term(source, self.widths, 2, 45)
            values = self.drawn_values(source)
            self.assertEqual(value_of_term(term, values), term_value(term, values))
        self.assertEqual(value_of_term(nested(10), {"a": "01xz"}), "10xx")
        self.assertEqual(value_of_term(fan(59), {"a": "01xz"}), "01xx")


class HandedInAndTold(unittest.TestCase):
    def test_dicts_are_not_changed(self):
        widths = {"a": 2, "b": 1}
        values = {"a": "z1", "b": "z"}
        term = ("pick", ("of", "b"), A, ("not", A))
        width_of(term, widths)
        value_of_term(term, values)
        with self.assertRaises(NoTerm):
            width_of(("of", "c"), widths)
        self.assertEqual(list(widths.items()), [("a", 2), ("b", 1)])
        self.assertEqual(list(values.items()), [("a", "z1"), ("b", "z")])

    def test_a_told_list_that_is_changed_changes_no_later_answer(self):
        term = ("and", A, ("of", "b"))
        told = names_in(term)
        told.append("c")
        told[0] = "d"
        self.assertEqual(names_in(term), ["a", "b"])
        self.assertIsNot(names_in(term), names_in(term))
        names_in(ZERO).append("q")
        self.assertEqual(names_in(ZERO), [])

    def test_asked_again_and_of_something_else_between(self):
        source = source_of("again")
        widths = {"a": 1, "b": 2}
        values = {"a": "x", "b": "1z"}
        terms = [drawn_term(source, widths, 2, deep=4) for _ in range(30)]

        def answers(term):
            return is_term(term), width_of(term, widths), names_in(term), times_in(term, "a"), value_of_term(term,
                                                                                                             values)

        first = [answers(term) for term in terms]
        again = [answers(term) for term in reversed(terms)]
        self.assertEqual(first, again[::-1])

    def test_what_is_done_later_to_dicts_has_no_bearing(self):
        widths = {"a": 1}
        values = {"a": "1"}
        self.assertEqual((width_of(A, widths), value_of_term(A, values)), (1, "1"))
        widths["a"], values["a"] = 2, "00"
        self.assertEqual((width_of(A, widths), value_of_term(A, values)), (2, "00"))
        self.assertEqual((width_of(A, {"a": 1}), value_of_term(A, {"a": "1"})), (1, "1"))

    def test_kinds(self):
        self.assertIs(type(names_in(A)), list)
        self.assertIs(type(times_in(A, "a")), int)
        self.assertIs(type(value_of_term(A, {"a": "z"})), str)


if __name__ == "__main__":
    unittest.main()
