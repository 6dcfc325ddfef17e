"""Points [10] and [12], and the interface of a Design."""

import itertools
import unittest

from deltawires.designs import Design
from deltawires.errors import NoName
from designsamples import (
    A, BLOCKS, ONE, SIGNALS, ZERO, bus_row, filter_row, full_blocks, full_body, full_signals, wire_row,
)
from drawing import drawn_blocks, drawn_signals
from oracles import row_names, statements_within
from samples import source_of

SORTS = ("input", "wire", "filter", "bus", "kept")


def drawn_designs(seed, many):
    source = source_of(seed)
    for _ in range(many):
        signals = drawn_signals(source, wires=source.randrange(1, 7), filters=source.randrange(3))
        blocks = drawn_blocks(source, signals, source.randrange(0, 4))
        yield signals, blocks, Design(signals, blocks)


class AsHandedIn(unittest.TestCase):
    def test_signals_and_blocks(self):
        design = Design(SIGNALS, BLOCKS)
        self.assertEqual(design.signals(), SIGNALS)
        self.assertEqual(design.blocks(), BLOCKS)
        self.assertIs(type(design.signals()), list)
        self.assertIs(type(design.blocks()), list)

    def test_rows_are_tuples_throughout(self):
        design = Design(SIGNALS, BLOCKS)
        for row in design.signals() + design.blocks():
            self.assertIs(type(row), tuple)
        self.assertEqual(repr(design.signals()), repr(SIGNALS))
        self.assertEqual(repr(design.blocks()), repr(BLOCKS))

    def test_without_blocks(self):
        for design in (Design(SIGNALS), Design(SIGNALS, ()), Design(SIGNALS, []), Design(signals=SIGNALS, blocks=())):
            self.assertEqual(design.blocks(), [])
            self.assertIs(type(design.blocks()), list)
            self.assertEqual(design.signals(), SIGNALS)

    def test_without_signals(self):
        for design in (Design([]), Design([], []), Design([], ())):
            self.assertEqual(design.signals(), [])
            self.assertEqual(design.blocks(), [])
            self.assertEqual(design.names(), [])
            self.assertEqual(len(design), 0)

    def test_all_that_there_may_be(self):
        signals, blocks = full_signals(), full_blocks()
        self.assertEqual((len(signals), len(blocks), len(statements_within(full_body()))), (24, 6, 20))
        design = Design(signals, blocks)
        self.assertEqual(design.signals(), signals)
        self.assertEqual(design.blocks(), blocks)
        self.assertEqual(len(design), 24)

    def test_all_filters_but_one(self):
        signals = [("input", "a", 1, None)] + [filter_row(f"f{at}", "a") for at in range(23)]
        self.assertEqual(len(Design(signals)), 24)

    def test_drawn(self):
        for signals, blocks, design in drawn_designs("as handed in", 60):
            self.assertEqual(design.signals(), signals)
            self.assertEqual(design.blocks(), blocks)


class Names(unittest.TestCase):
    def test_all_and_of_each_sort(self):
        design = Design(SIGNALS, BLOCKS)
        self.assertEqual(design.names(), ["clk", "d", "w", "f", "b", "q", "n"])
        self.assertEqual(design.names(sort=""), design.names())
        expected = {"input": ["clk", "d"], "wire": ["w"], "filter": ["f"], "bus": ["b"], "kept": ["q", "n"]}
        for sort in SORTS:
            self.assertEqual(design.names(sort=sort), expected[sort])
            self.assertIs(type(design.names(sort=sort)), list)

    def test_sorts_that_there_are_none_of(self):
        design = Design([("input", "a", 1, None)])
        for sort in SORTS:
            self.assertEqual(design.names(sort=sort), ["a"] if sort == "input" else [])

    def test_in_the_order_of_the_list(self):
        for signals in itertools.islice(itertools.permutations(SIGNALS), 0, None, 37):
            design = Design(list(signals), BLOCKS)
            self.assertEqual(design.names(), [row[1] for row in signals])
            for sort in SORTS:
                self.assertEqual(design.names(sort=sort), [row[1] for row in signals if row[0] == sort])

    def test_sort_is_handed_in_by_its_name(self):
        with self.assertRaises(TypeError):
            Design(SIGNALS).names("wire")


class OneSignal(unittest.TestCase):
    def test_sort_width_and_what(self):
        for signals, blocks in ((SIGNALS, BLOCKS), (full_signals(), full_blocks())):
            design = Design(signals, blocks)
            for sort, name, width, what in signals:
                self.assertEqual(design.sort_of(name), sort)
                self.assertEqual(design.width_of_signal(name), width)
                self.assertEqual(design.what_of(name), what)
        self.assertIsNone(Design(SIGNALS).what_of("clk"))

    def test_no_name_with_who(self):
        design = Design(SIGNALS, BLOCKS)
        for asked in (design.sort_of, design.width_of_signal, design.what_of, design.origins, design.is_chain):
            for who in ("", "a", "cl", "clkk", "CLK", "up", "idle", "down", "input", "not", "clk ", "nobody at all"):
                with self.assertRaises(NoName) as caught:
                    asked(who)
                self.assertEqual(caught.exception.who, who)
            with self.assertRaises(NoName):
                asked(name="up")

    def test_every_first_value(self):
        for value in ("0", "1", "x", "0x", "xxxxxxxx", "01x01x01"):
            design = Design([("kept", "k", len(value), value)])
            self.assertEqual(design.what_of("k"), value)


class Origins(unittest.TestCase):
    def expected(self, rows, name):
        if rows[name][0] in ("input", "kept"):
            return {name}
        return {origin for other in row_names(rows[name]) for origin in self.expected(rows, other)}

    def test_of_inputs_and_kept_ones_themselves(self):
        design = Design(SIGNALS, BLOCKS)
        for name in ("clk", "d", "q", "n"):
            self.assertEqual(design.origins(name), [name])

    def test_of_others(self):
        design = Design(SIGNALS, BLOCKS)
        self.assertEqual(design.origins("w"), ["d", "q"])
        self.assertEqual(design.origins("f"), ["clk"])
        self.assertEqual(design.origins("b"), ["clk", "d", "q"])
        self.assertIs(type(design.origins("b")), list)

    def test_in_the_designs_order_over_several_steps(self):
        rows = [
            ("input", "a", 1, None), ("kept", "k", 1, "0"), ("input", "b", 1, None),
            wire_row("u", "b", "a"), filter_row("f", "u", "k"), bus_row("v", "f", "b"), wire_row("w", "v"),
        ]
        for order in itertools.islice(itertools.permutations(rows), 0, None, 53):
            design = Design(list(order))
            names = [row[1] for row in order]
            for name, origins in (("u", "ab"), ("f", "abk"), ("v", "abk"), ("w", "abk")):
                self.assertEqual(design.origins(name), sorted(origins, key=names.index))

    def test_none_where_no_name_stands(self):
        design = Design([wire_row("w"), filter_row("f"), bus_row("b"), wire_row("v", "w", "f")])
        for name in ("w", "f", "b", "v"):
            self.assertEqual(design.origins(name), [])

    def test_each_place_of_a_bus_counts(self):
        names = [f"i{at}" for at in range(8)]
        rows = [("input", name, 1, None) for name in names]
        for many in (2, 3, 4):
            drivers = tuple([(("of", f"i{at}"), ("not", ("of", f"i{at + 4}"))) for at in range(many)])
            design = Design(rows + [("bus", "b", 1, drivers)])
            self.assertEqual(design.origins("b"), [f"i{at}" for at in range(many)] + [f"i{at + 4}"
                                                                                      for at in range(many)])

    def test_drawn(self):
        for signals, _, design in drawn_designs("origins", 60):
            rows = {row[1]: row for row in signals}
            for name in rows:
                expected = self.expected(rows, name)
                self.assertEqual(design.origins(name), [other for other in rows if other in expected])

    def test_many_ways_to_one_origin(self):
        design = Design(full_signals(), full_blocks())
        self.assertEqual(design.origins("w3"), ["i0", "k0"])
        self.assertEqual(design.origins("b3"), ["i0", "k0"])


class Chains(unittest.TestCase):
    base = [("input", "a", 1, None), ("input", "c", 2, None), ("kept", "k", 1, "x"), filter_row("f", "a", "k")]

    def check(self, row, expected, *more):
        design = Design(self.base + list(more) + [row])
        self.assertIs(design.is_chain(row[1]), expected, row)

    def test_inputs_kept_ones_and_filters(self):
        design = Design(self.base + [filter_row("g"), filter_row("h", "a", "a", "k")])
        for name in ("a", "c", "k", "f", "g", "h"):
            self.assertIs(design.is_chain(name), True)

    def test_wires(self):
        for name in ("a", "k", "f"):
            self.check(("wire", "w", 1, ("of", name)), True)
            self.check(("wire", "w", 1, ("not", ("of", name))), True)
            self.check(("wire", "w", 1, ("and", ("is", "x"), ("of", name))), True)
            self.check(("wire", "w", 1, ("and", ("of", name), ("of", name))), False)
            self.check(("wire", "w", 1, ("pick", ONE, ("of", name), ("not", ("of", name)))), False)
        self.check(("wire", "w", 1, ("part", ("of", "c"), 1, 1)), True)
        self.check(("wire", "w", 1, ("and", A, ("of", "k"))), False)
        self.check(("wire", "w", 1, ONE), False)
        self.check(("wire", "w", 1, ("not", ZERO)), False)

    def test_buses(self):
        self.check(("bus", "b", 1, ((A, ONE), (ONE, ZERO))), True)
        self.check(("bus", "b", 1, ((ZERO, ONE), (ONE, A))), True)
        self.check(("bus", "b", 1, ((ZERO, ONE), (ONE, ONE), (ZERO, ONE), (("not", A), ONE))), True)
        self.check(("bus", "b", 1, ((A, A), (ONE, ZERO))), False)
        self.check(("bus", "b", 1, ((A, ONE), (A, ZERO))), False)
        self.check(("bus", "b", 1, ((ONE, A), (ONE, ("of", "k")))), False)
        self.check(("bus", "b", 1, ((ONE, ZERO), (ONE, ONE))), False)

    def test_chains_of_wires_and_buses(self):
        one = ("wire", "w1", 1, ("not", A))
        two = ("bus", "w2", 1, ((("of", "w1"), ONE), (ONE, ZERO)))
        three = ("wire", "w3", 1, ("of", "w2"))
        self.check(three, True, one, two)
        self.check(three, False, ("wire", "w1", 1, ("or", A, A)), two)
        self.check(three, False, one, ("bus", "w2", 1, ((("of", "w1"), ONE), (A, ZERO))))
        self.check(("wire", "w4", 1, ("xor", ("of", "w3"), ("of", "w3"))), False, one, two, three)
        self.check(("wire", "w4", 1, ("of", "none")), False, ("wire", "none", 1, ONE))

    def test_a_chain_over_a_filter_that_is_none_by_its_own_terms(self):
        self.check(("wire", "w", 1, ("of", "g")), True, filter_row("g", "a", "k", "a"))
        self.check(("filter", "g", 1, ("of", "w")), True, ("wire", "w", 1, ("and", A, ("of", "k"))))

    def test_eight_long(self):
        rows = [("input", "w0", 1, None)]
        rows += [("wire", f"w{at}", 1, ("not", ("of", f"w{at - 1}"))) for at in range(1, 9)]
        for order in (rows, rows[::-1]):
            design = Design(order)
            self.assertTrue(all([design.is_chain(f"w{at}") is True for at in range(9)]))

    def test_drawn(self):
        def expected(rows, name):
            if rows[name][0] in ("input", "kept", "filter"):
                return True
            names = row_names(rows[name])
            return len(names) == 1 and expected(rows, names[0])

        found = set()
        for signals, _, design in drawn_designs("chains", 80):
            rows = {row[1]: row for row in signals}
            for name in rows:
                self.assertIs(design.is_chain(name), expected(rows, name))
                found.add((rows[name][0], design.is_chain(name)))
        self.assertLessEqual({("wire", True), ("wire", False), ("bus", False)}, found)


class Equal(unittest.TestCase):
    def test_equal_where_both_lists_are(self):
        one, other = Design(SIGNALS, BLOCKS), Design(list(SIGNALS), list(BLOCKS))
        self.assertIs(one == other, True)
        self.assertIs(one != other, False)
        self.assertIs(one == one, True)
        self.assertIs(one != one, False)

    def test_blocks_left_out(self):
        designs = [Design(SIGNALS), Design(SIGNALS, ()), Design(SIGNALS, [])]
        for one, other in itertools.product(designs, repeat=2):
            self.assertIs(one == other, True)
            self.assertIs(one != other, False)

    def test_unlike(self):
        designs = [
            Design(SIGNALS, BLOCKS), Design(SIGNALS), Design(SIGNALS, BLOCKS[:1]),
            Design(SIGNALS, BLOCKS[1:] + BLOCKS[:1]),
            Design(SIGNALS[1:] + SIGNALS[:1], BLOCKS), Design(SIGNALS[1:] + SIGNALS[:1]), Design([]),
            Design(SIGNALS[:1]),
            Design([("input", "a", 1, None)]), Design([("input", "b", 1, None)]), Design([("input", "a", 2, None)]),
            Design([("kept", "a", 1, "0")]), Design([("kept", "a", 1, "x")]), Design([("wire", "a", 1, ("is", "0"))]),
            Design([("filter", "a", 1, ("is", "0"))]),
            Design([("kept", "a", 1, "0")], [("b", "rise", "a", ())]),
            Design([("kept", "a", 1, "0")], [("b", "fall", "a", ())]),
            Design([("kept", "a", 1, "0")], [("c", "rise", "a", ())]),
            Design([("kept", "a", 1, "0")], [("b", "rise", "a", (("now", "a", A),))]),
            Design([("kept", "a", 1, "0")], [("b", "rise", "a", (("later", "a", A),))]),
        ]
        for at, one in enumerate(designs):
            for there, other in enumerate(designs):
                self.assertIs(one == other, at == there)
                self.assertIs(one != other, at != there)

    def test_anything_else(self):
        design = Design(SIGNALS, BLOCKS)
        for thing in (None, 0, 7, True, "", repr(design), [], (), {}, SIGNALS, (SIGNALS, BLOCKS), [SIGNALS, BLOCKS],
                      Design,
                      object(), len, b"", {1}):
            self.assertIs(design == thing, False)
            self.assertIs(design != thing, True)
            self.assertIs(thing == design, False)
            self.assertIs(thing != design, True)
            self.assertIs(Design([]) == thing, False)
            self.assertIs(Design([]) != thing, True)


class LenAndRepr(unittest.TestCase):
    def test_len(self):
        for many in range(len(SIGNALS) + 1):
            signals = [("input", f"i{at}", 1, None) for at in range(many)]
            self.assertEqual(len(Design(signals)), many)
        self.assertEqual(len(Design(SIGNALS, BLOCKS)), 7)

    def test_repr(self):
        self.assertEqual(repr(Design([])), "Design([], [])")
        self.assertEqual(repr(Design([("input", "a", 1, None)], ())), "Design([('input', 'a', 1, None)], [])")
        self.assertEqual(
            repr(Design([("kept", "k", 2, "0x")], [])),
            "Design([('kept', 'k', 2, '0x')], [])",
        )
        self.assertEqual(repr(Design(SIGNALS, BLOCKS)), f"Design({SIGNALS!r}, {BLOCKS!r})")

    def test_repr_is_that_of_what_it_was_made_of(self):
        for signals, blocks, design in drawn_designs("repr", 20):
            self.assertEqual(repr(design), f"Design({signals!r}, {blocks!r})")
            self.assertEqual(eval(repr(design), {"Design": Design}), design)


class HandedInAndTold(unittest.TestCase):
    def answers(self, design):
        names = design.names()
        return (
            design.signals(), design.blocks(), names, [design.names(sort=sort) for sort in SORTS],
            [design.sort_of(name) for name in names], [design.width_of_signal(name) for name in names],
            [design.what_of(name) for name in names], [design.origins(name) for name in names],
            [design.is_chain(name) for name in names], len(design), repr(design),
        )

    def test_lists_handed_in_are_not_changed(self):
        signals, blocks = list(SIGNALS), list(BLOCKS)
        self.answers(Design(signals, blocks))
        self.assertEqual(signals, SIGNALS)
        self.assertEqual(blocks, BLOCKS)
        rows = [wire_row("w", "a"), ("input", "a", 1, None), filter_row("f", "w")]
        self.answers(Design(rows))
        self.assertEqual(rows, [wire_row("w", "a"), ("input", "a", 1, None), filter_row("f", "w")])

    def test_lists_changed_afterwards(self):
        signals, blocks = list(SIGNALS), list(BLOCKS)
        design = Design(signals, blocks)
        first = self.answers(design)
        signals.append(("input", "late1", 1, None))
        signals[0] = ("input", "other", 8, None)
        blocks.clear()
        self.assertEqual(self.answers(design), first)
        self.assertEqual(design, Design(SIGNALS, BLOCKS))
        signals.clear()
        blocks.append(None)
        self.assertEqual(self.answers(design), first)

    def test_told_lists_changed(self):
        design = Design(SIGNALS, BLOCKS)
        first = self.answers(Design(SIGNALS, BLOCKS))
        for told in (design.signals(), design.blocks(), design.names(), design.names(sort="input"), design.origins("b"),
                     design.origins("clk"), design.names(sort="wire")):
            told.append("more")
            told[0] = "other"
            self.assertEqual(self.answers(design), first)
            told.clear()
            self.assertEqual(self.answers(design), first)

    def test_told_empty_lists_changed(self):
        design = Design([wire_row("w")])
        for asked in (design.blocks, lambda: design.names(sort="bus"), lambda: design.origins("w")):
            self.assertEqual(asked(), [])
            asked().append("more")
            self.assertEqual(asked(), [])
        self.assertEqual(Design([wire_row("w")]).blocks(), [])
        self.assertEqual(design, Design([wire_row("w")]))

    def test_no_two_told_lists_are_one(self):
        design = Design(SIGNALS, BLOCKS)
        for asked in (design.signals, design.blocks, design.names, lambda: design.origins("q"),
                      lambda: design.origins("b")):
            self.assertIsNot(asked(), asked())

    def test_of_two_designs_neither_knows_of_the_other(self):
        one, other = Design(SIGNALS, BLOCKS), Design(full_signals(), full_blocks())
        first = self.answers(one)
        second = self.answers(other)
        self.assertEqual((self.answers(one), self.answers(other)), (first, second))
        third = Design(SIGNALS)
        third.signals().clear()
        self.assertEqual((self.answers(one), self.answers(other)), (first, second))

    def test_a_refusal_changes_nothing(self):
        design = Design(SIGNALS, BLOCKS)
        first = self.answers(design)
        with self.assertRaises(NoName):
            design.origins("nobody")
        with self.assertRaises(NoName):
            design.is_chain("nobody")
        self.assertEqual(self.answers(design), first)

    def test_truths_are_true_or_false(self):
        design = Design(SIGNALS, BLOCKS)
        for name in design.names():
            self.assertIs(type(design.is_chain(name)), bool)
        self.assertIs(type(design == design), bool)
        self.assertIs(type(design != 3), bool)


if __name__ == "__main__":
    unittest.main()
