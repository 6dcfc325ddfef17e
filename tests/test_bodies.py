"""Point [15]: what a body does."""

import itertools
import unittest

from deltawires.bodies import body_done
from designsamples import A, C, K, ONE, Q, ZERO
from drawing import drawn_body
from oracles import done_body
from samples import drawn_value, filled, source_of

WIDTHS = {"a": 1, "c": 1, "d": 2, "k": 1, "q": 1, "m": 2, "n": 2}
KINDS = {"k": "now", "q": "later", "m": "now", "n": "later"}
VALUES = {"a": "1", "b": "z", "c": "x", "d": "01", "k": "0", "q": "0", "m": "10", "n": "1x"}


def body_of(*statements):
    return statements


class Written(unittest.TestCase):
    def check(self, body, now, later, **values):
        told = body_done(body, {**VALUES, **values})
        self.assertEqual(told, (now, later))
        self.assertIs(type(told), tuple)
        self.assertEqual([type(part) for part in told], [dict, dict])

    def test_nothing(self):
        self.check((), {}, {})
        self.check(body_of(("if", A, (), ())), {}, {})
        self.check(body_of(("if", C, (), ())), {}, {})

    def test_now_and_later(self):
        self.check(body_of(("now", "k", A)), {"k": "1"}, {})
        self.check(body_of(("later", "q", A)), {}, {"q": "1"})
        self.check(body_of(("now", "k", A), ("later", "q", C), ("now", "m", ("of", "d"))), {"k": "1", "m": "01"},
                   {"q": "x"})

    def test_a_value_that_is_no_other_is_set_too(self):
        self.check(body_of(("now", "k", K), ("later", "q", Q)), {"k": "0"}, {"q": "0"})

    def test_now_is_seen_by_what_stands_behind_it(self):
        self.check(body_of(("now", "k", A), ("now", "m", ("join", K, K))), {"k": "1", "m": "11"}, {})
        self.check(body_of(("now", "m", ("join", K, K)), ("now", "k", A)), {"k": "1", "m": "00"}, {})
        self.check(body_of(("now", "k", ("not", K)), ("later", "q", K), ("now", "k", ("not", K)),
                           ("later", "n", ("join", K, ONE))),
                   {"k": "0"}, {"q": "1", "n": "01"})
        self.check(body_of(("now", "k", ("not", K)), ("now", "k", ("not", K)), ("now", "k", ("not", K))), {"k": "1"},
                   {})

    def test_now_is_seen_by_an_if_and_within_it(self):
        self.check(body_of(("now", "k", ONE), ("if", K, (("later", "q", K),), (("later", "q", C),))), {"k": "1"},
                   {"q": "1"})
        self.check(body_of(("now", "k", C), ("if", K, (("later", "q", ONE),), (("later", "q", ONE),))), {"k": "x"},
                   {"q": "1"})

    def test_later_is_not_seen(self):
        self.check(body_of(("later", "q", ONE), ("now", "k", Q), ("if", Q, (("now", "k", ONE),), ())), {"k": "0"},
                   {"q": "1"})

    def test_later_in_the_place_of_what_was_told_ahead(self):
        self.check(body_of(("later", "q", ONE), ("later", "q", ZERO)), {}, {"q": "0"})
        self.check(body_of(("later", "q", ONE), ("if", A, (("later", "q", C),), ())), {}, {"q": "x"})
        self.check(body_of(("later", "q", ONE), ("if", A, (), (("later", "q", C),))), {}, {"q": "1"})

    def test_now_in_the_place_of_what_was_set_ahead(self):
        self.check(body_of(("now", "k", ONE), ("now", "k", C)), {"k": "x"}, {})
        self.check(body_of(("now", "k", ONE), ("if", A, (("now", "k", ZERO),), ())), {"k": "0"}, {})

    def test_if_told(self):
        both = (("now", "k", ONE), ("later", "q", ONE)), (("now", "m", ("is", "00")), ("later", "n", ("is", "00")))
        self.check(body_of(("if", A, *both)), {"k": "1"}, {"q": "1"})
        self.check(body_of(("if", A, *both)), {"m": "00"}, {"n": "00"}, a="0")
        self.check(body_of(("if", ("not", A), *both)), {"m": "00"}, {"n": "00"})

    def test_if_unknown_set_in_both(self):
        for one, other, expected in (("1", "1", "1"), ("0", "0", "0"), ("0", "1", "x"), ("1", "0", "x"),
                                     ("x", "1", "x"), ("0", "x", "x")):
            self.check(body_of(("if", C, (("now", "k", ("is", one)),), (("now", "k", ("is", other)),))),
                       {"k": expected}, {})
            self.check(body_of(("if", C, (("later", "q", ("is", one)),), (("later", "q", ("is", other)),))), {},
                       {"q": expected})

    def test_if_unknown_by_z(self):
        self.check(body_of(("if", ("of", "b"), (("now", "k", ONE),), (("now", "k", ONE),))), {"k": "1"}, {})
        self.check(body_of(("if", ("of", "b"), (("now", "k", ONE),), ())), {"k": "x"}, {})

    def test_if_unknown_set_in_one_alone_is_mixed_with_the_value_handed_in(self):
        for handed, one in itertools.product("01x", repeat=2):
            expected = handed if handed == one else "x"
            setting = (("now", "k", ("is", one)),)
            telling = (("later", "q", ("is", one)),)
            for first in (True, False):
                self.check(body_of(("if", C, setting, ()) if first else ("if", C, (), setting)), {"k": expected}, {},
                           k=handed)
                self.check(body_of(("if", C, telling, ()) if first else ("if", C, (), telling)), {}, {"q": expected},
                           q=handed)

    def test_if_unknown_bit_by_bit(self):
        self.check(body_of(("if", C, (("now", "m", ("is", "11")),), ())), {"m": "1x"}, {})
        self.check(body_of(("if", C, (), (("later", "n", ("is", "11")),))), {}, {"n": "1x"})
        self.check(body_of(("if", C, (("later", "n", ("is", "01")),), (("later", "n", ("is", "11")),))), {},
                   {"n": "x1"})

    def test_if_unknown_what_was_told_ahead_is_so_behind_both(self):
        self.check(body_of(("later", "q", ONE), ("if", C, (("later", "q", ONE),), ())), {}, {"q": "1"})
        self.check(body_of(("later", "q", ONE), ("if", C, (), (("later", "q", ZERO),))), {}, {"q": "x"})
        self.check(body_of(("now", "k", ONE), ("if", C, (("now", "k", ONE),), ())), {"k": "1"}, {})
        self.check(body_of(("now", "k", ONE), ("if", C, (), ())), {"k": "1"}, {})
        self.check(body_of(("now", "k", ONE), ("later", "q", ONE), ("if", C, (("now", "m", ("of", "m")),), ())),
                   {"k": "1", "m": "10"}, {"q": "1"})

    def test_if_unknown_neither_sees_the_other(self):
        self.check(
            body_of(("if", C, (("now", "k", ONE), ("later", "q", K)), (("later", "q", K), ("now", "k", ONE)))),
            {"k": "1"}, {"q": "x"},
        )
        self.check(body_of(("if", C, (("now", "k", ("not", K)),), (("now", "k", ("not", K)),))), {"k": "1"}, {})

    def test_what_stands_behind_an_unknown_if_sees_the_mixed_values(self):
        self.check(body_of(("if", C, (("now", "k", ONE),), ()), ("later", "q", K)), {"k": "x"}, {"q": "x"})
        self.check(body_of(("if", C, (("now", "k", ONE),), (("now", "k", ONE),)), ("later", "q", K)), {"k": "1"},
                   {"q": "1"})
        self.check(body_of(("if", C, (("now", "k", ONE),), ()), ("now", "k", ONE)), {"k": "1"}, {})
        self.check(body_of(("if", C, (("now", "k", ONE),), ()), ("if", K, (("later", "q", ONE),), ())), {"k": "x"},
                   {"q": "x"})

    def test_ifs_within_ifs(self):
        inner = ("if", C, (("now", "k", ONE),), ())
        self.check(body_of(("if", A, (inner,), ())), {"k": "x"}, {})
        self.check(body_of(("if", A, (), (inner,))), {}, {})
        self.check(body_of(("if", C, (inner,), ())), {"k": "x"}, {})
        self.check(body_of(("if", C, (inner,), (("now", "k", ONE),))), {"k": "x"}, {})
        self.check(body_of(("if", C, (inner,), (("now", "k", ONE),))), {"k": "1"}, {}, k="1")
        self.check(body_of(("if", C, (("now", "k", ONE), inner), (("now", "k", ONE),))), {"k": "1"}, {})
        self.check(body_of(("if", C, (("if", A, (("later", "q", ONE),), ()),),
                            (("if", A, (), (("later", "q", ONE),)),))), {}, {"q": "x"})
        deep = ("if", A, (("if", ONE, (("if", C, (), (("later", "q", ZERO),)),), ()),), ())
        self.check(body_of(deep), {}, {"q": "0"})
        self.check(body_of(deep), {}, {"q": "x"}, q="1")

    def test_told_by_the_names_set_alone(self):
        for value in "01x":
            now, later = body_done((("if", A, (("now", "k", ONE),), (("later", "q", ONE),)),), {**VALUES, "a": value})
            self.assertEqual((sorted(now), sorted(later)), {
                "0": ([], ["q"]), "1": (["k"], []), "x": (["k"], ["q"]),
            }[value])


class Drawn(unittest.TestCase):
    def drawn(self, source):
        body = ()
        while not body:
            body = drawn_body(source, WIDTHS, KINDS, 1, [20])
        values = {name: drawn_value(source, width, source.choice(["01", "01x"])) for name, width in WIDTHS.items()}
        values["c"] = drawn_value(source, 1, "01xz")
        return body, values

    def test_against_the_words(self):
        source = source_of("bodies")
        for _ in range(600):
            body, values = self.drawn(source)
            self.assertEqual(body_done(body, values), done_body(body, values), (body, values))

    def test_so_for_each_filling(self):
        source = source_of("fillings of bodies")
        for _ in range(150):
            body, values = self.drawn(source)
            told = body_done(body, values)
            for chosen in itertools.islice(itertools.product(*[filled(value) for value in values.values()]), 64):
                filling = dict(zip(values, chosen))
                for here, there in zip(told, body_done(body, filling)):
                    self.assertLessEqual(set(there), set(here))
                    for name in here:
                        for sign, other in zip(here[name], there.get(name, filling[name])):
                            self.assertIn(sign, ("x", other), (body, values, filling, name))

    def test_no_value_has_z(self):
        source = source_of("bodies without z")
        for _ in range(100):
            body, values = self.drawn(source)
            values["c"] = "z"
            for told in body_done(body, values):
                self.assertNotIn("z", "".join(told.values()))


class HandedInAndTold(unittest.TestCase):
    body = (("now", "k", A), ("if", C, (("now", "m", ("of", "d")), ("later", "q", K)), ()), ("later", "n", ("of", "m")))

    def test_values_are_not_changed(self):
        values = dict(VALUES)
        body_done(self.body, values)
        self.assertEqual(list(values.items()), list(VALUES.items()))

    def test_told_dicts_are_the_askers_own(self):
        first = body_done(self.body, VALUES)
        kept = (dict(first[0]), dict(first[1]))
        first[0].clear()
        first[1]["q"] = "changed"
        self.assertEqual(body_done(self.body, VALUES), kept)
        for body in ((), self.body):
            one, other = body_done(body, VALUES), body_done(body, VALUES)
            self.assertEqual(len({id(part) for part in one + other}), 4)
        empty = body_done((), VALUES)
        empty[0]["k"] = "1"
        empty[1]["k"] = "1"
        self.assertEqual(body_done((), VALUES), ({}, {}))

    def test_asked_again_and_of_something_else_between(self):
        source = source_of("bodies again")
        bodies = [drawn_body(source, WIDTHS, KINDS, 1, [20]) for _ in range(20)]
        first = [body_done(body, VALUES) for body in bodies]
        again = [body_done(body, VALUES) for body in reversed(bodies)]
        self.assertEqual(first, again[::-1])

    def test_other_names_have_no_bearing(self):
        self.assertEqual(body_done(self.body, {**VALUES, "nobody": "zz", "k9": "0"}), body_done(self.body, VALUES))


if __name__ == "__main__":
    unittest.main()
