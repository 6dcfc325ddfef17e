"""Point [21]: races, with the origins and chains of [12]."""

import unittest

from deltawires.designs import Design
from deltawires.races import races
from designsamples import A, BLOCKS, C, K, ONE, Q, SIGNALS, ZERO, full_blocks, full_signals
from eventdrawing import drawn_any, drawn_calm
from eventoracles import races_of
from samples import source_of

RULES = ("settled", "free")
M = ("of", "m")
W = ("of", "w")


def inputs(*names):
    return [("input", name, 1, None) for name in names]


def kept(*names):
    return [("kept", name, 1, "0") for name in names]


def block(name, trigger, *statements):
    return (name, "rise", trigger, statements)


def told(signals, *blocks, rule="settled"):
    return races(Design(signals, list(blocks)), rule=rule)


class Twice(unittest.TestCase):
    def test_each_two_blocks_in_order_for_each_signal_in_order(self):
        signals = kept("q") + inputs("a") + kept("k", "m")
        blocks = [
            block("z", "a", ("later", "k", A), ("later", "q", A)), block("y", "a", ("later", "q", ONE)),
            block("b", "a", ("later", "m", ONE)), block("c", "a", ("if", A, (("later", "k", A),), (("later", "q", A),))),
        ]
        expected = [("twice", "z", "y", "q"), ("twice", "z", "c", "q"), ("twice", "y", "c", "q"),
                    ("twice", "z", "c", "k")]
        for rule in RULES:
            self.assertEqual(told(signals, *blocks, rule=rule), expected)

    def test_set_now_too(self):
        blocks = [block("one", "a", ("now", "q", ONE)), block("two", "a", ("now", "q", ONE))]
        self.assertEqual(told(inputs("a") + kept("q"), *blocks), [("twice", "one", "two", "q")])

    def test_one_block_alone_does_not_race(self):
        self.assertEqual(told(inputs("a") + kept("q"), block("one", "a", ("later", "q", ONE), ("later", "q", Q))), [])


class Seen(unittest.TestCase):
    def test_by_a_trigger_the_blocks_own_too(self):
        blocks = [block("one", "q", ("now", "q", ONE)), block("two", "q")]
        self.assertEqual(told(kept("q"), *blocks), [("seen", "one", "one", "q"), ("seen", "one", "two", "q")])

    def test_by_a_triggers_origins(self):
        signals = inputs("a") + kept("q") + [("filter", "f", 1, ("and", A, W)), ("wire", "w", 1, ("not", Q))]
        self.assertEqual(told(signals, block("one", "f", ("now", "q", A))), [("seen", "one", "one", "q")])
        self.assertEqual(told(signals, block("one", "a", ("now", "q", A)), block("two", "f")),
                         [("seen", "one", "two", "q")])

    def test_by_a_name_in_another_blocks_terms_alone(self):
        signals = inputs("a") + kept("q", "k") + [("wire", "w", 1, ("not", Q))]
        setter = block("one", "a", ("now", "q", ("not", Q)))
        self.assertEqual(told(signals, setter), [])
        for statements in ((("later", "k", Q),), (("later", "k", W),), (("if", Q, (), ()),),
                           (("if", A, (("if", ONE, (), (("later", "k", ("and", A, W)),)),), ()),)):
            self.assertEqual(told(signals, setter, block("two", "a", *statements)), [("seen", "one", "two", "q")])
            self.assertEqual(told(signals, block("two", "a", *statements), setter), [("seen", "one", "two", "q")])
        self.assertEqual(told(signals, setter, block("two", "a", ("later", "k", ("and", A, K)))), [])

    def test_what_is_set_later_is_not_seen(self):
        signals = inputs("a") + kept("q", "k")
        blocks = [block("one", "a", ("later", "q", ONE)), block("two", "q", ("later", "k", Q))]
        self.assertEqual(told(signals, *blocks), [])

    def test_each_block_each_signal_each_block_in_order(self):
        signals = kept("q", "k") + inputs("a") + kept("m")
        blocks = [
            block("y", "a", ("now", "m", ONE), ("if", A, (("now", "q", ONE),), ())),
            block("b", "m", ("later", "k", ("and", Q, M))), block("a1", "q", ("now", "m", M)), block("c", "a"),
        ]
        self.assertEqual(told(signals, *blocks), [
            ("twice", "y", "a1", "m"), ("seen", "y", "b", "q"), ("seen", "y", "a1", "q"), ("seen", "y", "b", "m"),
            ("seen", "y", "a1", "m"), ("seen", "a1", "b", "m"),
        ])

    def test_once_where_it_is_seen_in_two_ways(self):
        blocks = [block("one", "a", ("now", "q", ONE)), block("two", "q", ("later", "k", ("or", Q, Q)))]
        self.assertEqual(told(inputs("a") + kept("q", "k"), *blocks), [("seen", "one", "two", "q")])


class Glitch(unittest.TestCase):
    def test_triggers_that_are_no_chains(self):
        for row, is_chain in (
            (("wire", "w", 1, ("not", A)), True), (("wire", "w", 1, ("and", A, C)), False),
            (("wire", "w", 1, ("xor", A, A)), False), (("wire", "w", 1, ONE), False),
            (("wire", "w", 1, ("pick", ONE, ZERO, A)), True), (("filter", "w", 1, ("and", A, C)), True),
            (("bus", "w", 1, ((A, ONE), (ZERO, ONE))), True), (("bus", "w", 1, ((A, ONE), (ZERO, A))), False),
            (("bus", "w", 1, ((ONE, ONE), (ZERO, ONE))), False),
        ):
            expected = [] if is_chain else [("glitch", "blk", "", "w")]
            for rule in RULES:
                self.assertEqual(told(inputs("a", "c") + [row], block("blk", "w"), rule=rule), expected)

    def test_chains_of_chains(self):
        signals = inputs("a", "c") + [("wire", "u", 1, ("not", W)), ("wire", "w", 1, ("of", "f")),
                                      ("filter", "f", 1, ("and", A, ("of", "v"))), ("wire", "v", 1, ("and", A, C)),
                                      ("wire", "n", 1, ("not", ("of", "v")))]
        self.assertEqual(told(signals, block("one", "u"), block("two", "n"), block("three", "v"), block("four", "n")),
                         [("glitch", "two", "", "n"), ("glitch", "three", "", "v"), ("glitch", "four", "", "n")])


class Early(unittest.TestCase):
    def test_under_free_alone_each_block_each_signal_in_order(self):
        signals = [("filter", "f", 1, A), ("wire", "w", 1, A), ("input", "a", 1, None),
                   ("bus", "b", 1, ((A, ONE), (ZERO, A)))] + kept("q", "k")
        blocks = [
            block("y", "a", ("later", "q", ("of", "b")), ("if", W, (("later", "q", W),), ())),
            block("x", "a", ("later", "k", ("pick", ("of", "b"), ("of", "f"), ("and", A, W)))),
        ]
        self.assertEqual(told(signals, *blocks), [])
        self.assertEqual(told(signals, *blocks, rule="free"), [
            ("early", "y", "", "w"), ("early", "y", "", "b"), ("early", "x", "", "f"), ("early", "x", "", "w"),
            ("early", "x", "", "b"),
        ])

    def test_a_trigger_alone_is_not_early(self):
        self.assertEqual(told(inputs("a") + [("wire", "w", 1, A)], block("blk", "w"), rule="free"), [])


class All(unittest.TestCase):
    def test_each_kind_in_the_order_told(self):
        signals = inputs("a", "c") + kept("q") + [("wire", "w", 1, ("and", A, Q))]
        blocks = [block("one", "w", ("now", "q", W)), block("two", "w", ("now", "q", W))]
        seen = [("seen", one, other, "q") for one in ("one", "two") for other in ("one", "two")]
        expected = [("twice", "one", "two", "q")] + seen + [("glitch", name, "", "w") for name in ("one", "two")]
        self.assertEqual(told(signals, *blocks), expected)
        self.assertEqual(told(signals, *blocks, rule="free"),
                         expected + [("early", name, "", "w") for name in ("one", "two")])

    def test_none(self):
        self.assertEqual((races(Design([])), races(Design(full_signals()), rule="free")), ([], []))

    def test_the_rule_that_is_left_out_is_settled(self):
        design = Design(SIGNALS, BLOCKS)
        self.assertEqual(races(design), races(design, rule="settled"))
        self.assertNotEqual(races(design), races(design, rule="free"))
        with self.assertRaises(TypeError):
            races(design, "free")

    def test_told_lists_are_the_askers_own(self):
        design = Design(SIGNALS, BLOCKS)
        first = races(design)
        expected = list(first)
        self.assertEqual({type(race) for race in first}, {tuple})
        first.clear()
        self.assertEqual(races(design), expected)

    def test_the_samples(self):
        for signals, blocks in ((SIGNALS, BLOCKS), (full_signals(), full_blocks())):
            for rule in RULES:
                self.assertEqual(told(signals, *blocks, rule=rule), races_of(signals, blocks, rule))

    def test_drawn(self):
        source = source_of("races")
        kinds = set()
        for _ in range(250):
            signals, blocks = drawn_any(source)
            for rule in RULES:
                found = told(signals, *blocks, rule=rule)
                self.assertEqual(found, races_of(signals, blocks, rule))
                kinds |= {race[0] for race in found}
        self.assertEqual(kinds, {"twice", "seen", "glitch", "early"})

    def test_drawn_without_a_race(self):
        source = source_of("no races")
        for rule in RULES:
            for _ in range(40):
                signals, blocks = drawn_calm(source, rule)
                self.assertEqual(told(signals, *blocks, rule=rule), [])


if __name__ == "__main__":
    unittest.main()
