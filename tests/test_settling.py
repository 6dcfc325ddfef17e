"""Point [14], and what [4] says of a settled design."""

import itertools
import unittest

from deltawires.designs import Design
from deltawires.settling import settled
from designsamples import A, B, BLOCKS, ONE, SIGNALS, ZERO, full_blocks, full_signals, wire_row
from drawing import drawn_given, drawn_signals
from oracles import settled_values
from samples import SIGNS, drawn_value, filled, source_of, texts


def inputs(**widths):
    return [("input", name, width, None) for name, width in widths.items()]


class Written(unittest.TestCase):
    def test_all_sorts(self):
        told = settled(Design(SIGNALS, BLOCKS), {"clk": "1", "d": "0011", "q": "0101", "n": "x"})
        self.assertEqual(told, {
            "clk": "1", "d": "0011", "w": "1000", "f": "0", "b": "xx01", "q": "0101", "n": "x",
        })

    def test_unknown(self):
        told = settled(Design(SIGNALS, BLOCKS), {"clk": "x", "d": "000x", "q": "xxx0", "n": "1"})
        self.assertEqual(told, {
            "clk": "x", "d": "000x", "w": "xxxx", "f": "x", "b": "xxxx", "q": "xxx0", "n": "1",
        })

    def test_nothing(self):
        self.assertEqual(settled(Design([]), {}), {})
        self.assertEqual(settled(Design([wire_row("w")]), {}), {"w": "0"})

    def test_wires_over_wires_in_any_order_of_the_list(self):
        rows = inputs(a=2) + [
            ("wire", "p", 2, ("plus", ("of", "a"), ("is", "01"))), ("filter", "f", 2, ("not", ("of", "p"))),
            ("wire", "q", 1, ("any", ("of", "f"))), ("kept", "k", 1, "x"),
            ("bus", "r", 1, ((("of", "q"), ("of", "k")), (("not", ("of", "q")), ("part", ("of", "f"), 1, 1)))),
            ("wire", "s", 2, ("join", ("of", "r"), ("of", "q"))),
        ]
        for order in itertools.islice(itertools.permutations(rows), 0, None, 41):
            design = Design(list(order))
            for value, kept in itertools.product(texts("01x", 2), "01x"):
                given = {"k": kept, "a": value}
                told = settled(design, given)
                self.assertEqual(told, settled_values(rows, given))
                self.assertEqual(list(told), [row[1] for row in order])

    def test_eight_wires_over_one_another_backwards(self):
        rows = [("wire", f"w{at}", 1, ("not", ("of", f"w{at + 1}"))) for at in range(8)] + inputs(w8=1)
        told = settled(Design(rows), {"w8": "0"})
        self.assertEqual([told[f"w{at}"] for at in range(9)], list("010101010"))

    def test_a_wire_reads_a_bus(self):
        rows = [("wire", "w", 1, B), ("filter", "f", 1, ("not", B)),
                ("bus", "b", 1, ((ZERO, ONE), (A, ONE)))] + inputs(a=1)
        for value, bus, wire, turned in (("0", "z", "x", "x"), ("1", "1", "1", "0"), ("x", "x", "x", "x")):
            self.assertEqual(settled(Design(rows), {"a": value}), {"a": value, "b": bus, "w": wire, "f": turned})

    def test_a_bus_reads_a_bus(self):
        rows = inputs(a=1) + [
            ("bus", "b", 1, ((ZERO, ONE), (A, ONE))), ("bus", "c", 1, ((ONE, B), (ZERO, ONE))),
            ("bus", "d", 1, ((B, ONE), (ZERO, ONE))),
        ]
        self.assertEqual(settled(Design(rows), {"a": "0"}), {"a": "0", "b": "z", "c": "x", "d": "x"})
        self.assertEqual(settled(Design(rows), {"a": "1"}), {"a": "1", "b": "1", "c": "1", "d": "1"})


class Buses(unittest.TestCase):
    def bus(self, many, width=1):
        names = {f"w{at}": 1 for at in range(many)} | {f"t{at}": width for at in range(many)}
        drivers = tuple([(("of", f"w{at}"), ("of", f"t{at}")) for at in range(many)])
        return Design(inputs(**names) + [("bus", "b", width, drivers)])

    def told(self, design, whens, terms):
        given = {f"w{at}": when for at, when in enumerate(whens)} | {f"t{at}": term for at, term in enumerate(terms)}
        value = settled(design, given)["b"]
        self.assertEqual(value, settled_values(design.signals(), given)["b"], given)
        return value

    def test_written(self):
        two = self.bus(2)
        for whens, terms, expected in (
            ("00", "01", "z"), ("10", "01", "0"), ("01", "01", "1"), ("11", "01", "x"), ("11", "11", "1"),
            ("11", "00", "0"),
            ("10", "x1", "x"), ("1x", "11", "1"), ("1x", "10", "x"), ("x1", "11", "1"), ("x0", "10", "x"),
            ("xx", "11", "x"),
            ("0x", "11", "x"), ("1x", "1x", "x"), ("11", "1x", "x"), ("xx", "xx", "x"),
        ):
            self.assertEqual(self.told(two, whens, terms), expected, (whens, terms))

    def test_written_wide(self):
        two = self.bus(2, 4)
        self.assertEqual(self.told(two, "11", ["0011", "0101"]), "0xx1")
        self.assertEqual(self.told(two, "1x", ["0011", "0101"]), "0xx1")
        self.assertEqual(self.told(two, "x1", ["0x11", "0101"]), "0xx1")
        self.assertEqual(self.told(two, "10", ["0x11", "0101"]), "0x11")
        self.assertEqual(self.told(two, "00", ["0x11", "0101"]), "zzzz")
        self.assertEqual(self.told(two, "0x", ["0x11", "0101"]), "xxxx")

    def test_all_of_two_three_and_four_drivers(self):
        for many, signs in ((2, "01x"), (3, "01x"), (4, "01x")):
            design = self.bus(many)
            for whens in itertools.product("01x", repeat=many):
                for terms in itertools.product(signs, repeat=many):
                    self.told(design, whens, terms)

    def test_drawn_wide(self):
        source = source_of("buses")
        for many in (2, 3, 4):
            design = self.bus(many, 8)
            for _ in range(150):
                whens = drawn_value(source, many, source.choice(["01", "01x", "0001x", "1x"]))
                first = drawn_value(source, 8, "01x")
                terms = ["".join([source.choice([sign] * 5 + ["0", "1", "x"]) for sign in first]) for _ in range(many)]
                self.told(design, whens, terms)

    def test_z_where_no_driver_drives_whatever_the_terms(self):
        for many in (2, 3, 4):
            for terms in itertools.product("01x", repeat=many):
                self.assertEqual(self.told(self.bus(many), "0" * many, terms), "z")

    def test_an_unknown_when_is_taken_as_both_beside_told_ones(self):
        four = self.bus(4)
        self.assertEqual(self.told(four, "x1x0", "1110"), "1")
        self.assertEqual(self.told(four, "x1x0", "1100"), "x")
        self.assertEqual(self.told(four, "x0x0", "1111"), "x")

    def test_whens_that_are_terms(self):
        design = Design(inputs(a=2, b=2) + [("bus", "c", 2, (
            (("same", A, ("is", "00")), B), (("less", A, B), ("not", B)), (("all", A), ("is", "0x")),
        ))])
        for one, other in itertools.product(texts("01x", 2), repeat=2):
            given = {"a": one, "b": other}
            self.assertEqual(settled(design, given), settled_values(design.signals(), given))


class Drawn(unittest.TestCase):
    def test_against_the_words(self):
        source = source_of("settled")
        for _ in range(120):
            signals = drawn_signals(source, wires=source.randrange(0, 8), filters=source.randrange(0, 4))
            design = Design(signals)
            for _ in range(4):
                given = drawn_given(source, signals, source.choice(["01", "0011x", "01x"]))
                told = settled(design, given)
                self.assertEqual(told, settled_values(signals, given))
                self.assertEqual(list(told), design.names())

    def test_so_for_each_filling(self):
        source = source_of("fillings of designs")
        for _ in range(60):
            signals = drawn_signals(source, inputs=2, kept=2, wires=4)
            design = Design(signals)
            given = drawn_given(source, signals, "000111x")
            told = settled(design, given)
            for chosen in itertools.product(*[filled(value) for value in given.values()]):
                filling = settled(design, dict(zip(given, chosen)))
                for name, value in told.items():
                    for sign, there in zip(value, filling[name]):
                        self.assertIn(sign, ("x", there), (signals, given, chosen, name))

    def test_no_z_but_in_buses(self):
        source = source_of("no z")
        seen = set()
        for _ in range(60):
            signals = drawn_signals(source, wires=6)
            told = settled(Design(signals), drawn_given(source, signals))
            for sort, name, width, _ in signals:
                self.assertEqual(len(told[name]), width)
                self.assertLessEqual(set(told[name]), set(SIGNS) if sort == "bus" else set("01x"))
                seen |= {(sort, sign) for sign in told[name]}
        self.assertIn(("bus", "z"), seen)

    def test_all_that_there_may_be(self):
        source = source_of("full")
        signals = full_signals()
        design = Design(signals, full_blocks())
        for _ in range(20):
            given = drawn_given(source, signals)
            self.assertEqual(settled(design, given), settled_values(signals, given))


class HandedInAndTold(unittest.TestCase):
    given = {"clk": "1", "d": "0011", "q": "0101", "n": "x"}

    def test_given_is_not_changed(self):
        given = dict(self.given)
        settled(Design(SIGNALS, BLOCKS), given)
        self.assertEqual(list(given.items()), list(self.given.items()))

    def test_what_else_is_given_has_no_bearing(self):
        design = Design(SIGNALS, BLOCKS)
        expected = settled(design, self.given)
        more = {"w": "zzzz", "f": "1", "b": "1111", "nobody": "01", "up": "1", **self.given}
        self.assertEqual(settled(design, more), expected)
        self.assertEqual(list(settled(design, more)), design.names())
        self.assertEqual(settled(design, expected), expected)
        self.assertEqual(settled(design, dict(reversed(list(more.items())))), expected)

    def test_in_the_designs_order_whatever_the_order_given(self):
        design = Design(SIGNALS, BLOCKS)
        for order in itertools.permutations(self.given):
            told = settled(design, {name: self.given[name] for name in order})
            self.assertEqual(list(told), [row[1] for row in SIGNALS])

    def test_the_told_dict_is_the_askers_own(self):
        design = Design(SIGNALS, BLOCKS)
        first = settled(design, self.given)
        kept = dict(first)
        first["w"] = "changed"
        first["more"] = "0"
        self.assertEqual(settled(design, self.given), kept)
        self.assertIsNot(settled(design, self.given), settled(design, self.given))
        self.assertIsNot(settled(Design([]), {}), settled(Design([]), {}))
        given = {"a": "0"}
        alone = Design([("input", "a", 1, None)])
        told = settled(alone, given)
        self.assertIsNot(told, given)
        told["a"] = "1"
        self.assertEqual((given, settled(alone, given)), ({"a": "0"}, {"a": "0"}))

    def test_asked_again_and_of_something_else_between(self):
        design, other = Design(SIGNALS, BLOCKS), Design(full_signals())
        first = settled(design, self.given)
        settled(other, {row[1]: "x" * row[2] for row in full_signals()})
        settled(design, {"clk": "0", "d": "1111", "q": "1111", "n": "0"})
        self.assertEqual(settled(design, self.given), first)

    def test_given_that_is_changed_later(self):
        design = Design([("input", "a", 1, None), ("wire", "w", 1, ("not", A))])
        given = {"a": "0"}
        told = settled(design, given)
        given["a"] = "1"
        self.assertEqual(told, {"a": "0", "w": "1"})
        self.assertEqual(settled(design, given), {"a": "1", "w": "0"})


if __name__ == "__main__":
    unittest.main()
