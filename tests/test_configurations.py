"""Points [18] and [19]: configurations, what is doable in them, and what is done."""

import itertools
import unittest

from deltawires.configurations import FREE, SETTLED, begun, doable, done
from deltawires.designs import Design
from deltawires.errors import NoName, NoValue
from deltawires.netruns import NetRun
from designsamples import A, BLOCKS, C, K, ONE, Q, SIGNALS, ZERO
from eventdrawing import drawn_any, drawn_put
from eventoracles import Machine
from samples import NO_TEXTS, drawn_value, source_of

RULES = ("settled", "free")

# An input, wires and a bus behind it, a filter, and blocks that set now and later.
ROWS = [
    ("bus", "b", 2, ((A, ("join", K, A)), (C, ("is", "1x")))),
    ("input", "a", 1, None),
    ("kept", "q", 1, "0"),
    ("wire", "v", 1, ("not", ("of", "w"))),
    ("filter", "f", 1, ("and", A, ("of", "v"))),
    ("wire", "w", 1, ("xor", A, K)),
    ("input", "c", 1, None),
    ("kept", "k", 1, "0"),
]
WORK = [
    ("two", "fall", "w", (("now", "k", ("not", K)), ("later", "q", A))),
    ("one", "rise", "a", (("later", "q", ("not", Q)),)),
    ("three", "rise", "a", ()),
]
DESIGN = Design(ROWS, WORK)
ORDER = [row[1] for row in ROWS]
STILL = {"b": "zz", "a": "0", "q": "0", "v": "1", "f": "0", "w": "0", "c": "0", "k": "0"}


def tuple_of(**values):
    """The values of STILL, in order, with some of them changed."""
    return tuple([{**STILL, **values}[name] for name in ORDER])


def conf(pending=(), awake=(), told=(), **values):
    return (tuple_of(**values), pending, awake, told)


class Begun(unittest.TestCase):
    def test_words(self):
        self.assertEqual((SETTLED, FREE), ("settled", "free"))

    def test_what_hangs_on_what_changed_is_pending_and_edges_wake(self):
        self.assertEqual(begun(DESIGN, STILL, {"a": "1"}), conf(("b", "w"), ("one", "three"), a="1"))
        self.assertEqual(begun(DESIGN, STILL, {"a": "x"}), conf(("b", "w"), a="x"))
        self.assertEqual(begun(DESIGN, STILL, {"c": "1"}), conf(("b",), c="1"))
        self.assertEqual(begun(DESIGN, STILL, {"c": "1", "a": "1"}), conf(("b", "w"), ("one", "three"), a="1", c="1"))

    def test_filters_are_never_pending(self):
        design = Design([("input", "a", 1, None), ("filter", "f", 1, A), ("wire", "w", 1, ("of", "f"))])
        self.assertEqual(begun(design, {"a": "0", "f": "0", "w": "0"}, {"a": "1"}), (("1", "0", "0"), (), (), ()))

    def test_what_is_put_in_as_it_was_changes_nothing(self):
        for changes in ({"a": "0"}, {"c": "0"}, {"a": "0", "c": "0"}):
            self.assertEqual(begun(DESIGN, STILL, changes), conf())
        self.assertEqual(begun(DESIGN, STILL, {"a": "0", "c": "1"}), conf(("b",), c="1"))

    def test_without_changes(self):
        for told in (begun(DESIGN, STILL), begun(DESIGN, STILL, None), begun(DESIGN, STILL, {}),
                     begun(DESIGN, STILL, changes=None)):
            self.assertEqual(told, conf())

    def test_values_that_are_not_settled_make_nothing_pending(self):
        odd = {**STILL, "w": "1", "v": "x", "b": "0x", "f": "1"}
        self.assertEqual(begun(DESIGN, odd), conf(w="1", v="x", b="0x", f="1"))
        self.assertEqual(begun(DESIGN, odd, {"c": "x"}), conf(("b",), w="1", v="x", b="0x", f="1", c="x"))

    def test_the_order_of_the_dicts_has_no_bearing(self):
        for names in itertools.islice(itertools.permutations(STILL), 0, None, 997):
            values = {name: STILL[name] for name in names}
            for changes in ({"a": "1", "c": "1"}, {"c": "1", "a": "1"}):
                self.assertEqual(begun(DESIGN, values, changes),
                                 conf(("b", "w"), ("one", "three"), a="1", c="1"))

    def test_each_once_where_several_inputs_stand_in_one_term(self):
        signals = [("input", "a", 1, None), ("wire", "w", 1, ("and", A, ("and", C, A))), ("input", "c", 1, None)]
        told = begun(Design(signals), {"a": "0", "w": "0", "c": "0"}, {"a": "1", "c": "1"})
        self.assertEqual(told, (("1", "0", "1"), ("w",), (), ()))

    def test_each_two_signs_of_a_trigger(self):
        for edge, (ahead, now) in itertools.product(("rise", "fall"), itertools.product("01x", repeat=2)):
            design = Design([("input", "a", 1, None)], [("blk", edge, "a", ())])
            awake = (edge, ahead, now) in (("rise", "0", "1"), ("fall", "1", "0"))
            self.assertEqual(begun(design, {"a": ahead}, {"a": now}), ((now,), (), ("blk",) if awake else (), ()))

    def test_kinds(self):
        told = begun(DESIGN, STILL, {"a": "1"})
        self.assertEqual([type(part) for part in (told, *told)], [tuple] * 5)

    def test_no_name_ahead_of_no_value(self):
        for names in itertools.permutations(["a", "q", "nobody", "one"]):
            with self.assertRaises(NoName) as caught:
                begun(DESIGN, STILL, {name: "z" for name in names})
            self.assertEqual(caught.exception.who, [name for name in names if name != "a"][0])
        for name in ("b", "q", "v", "f", "w", "k", "one", "", "A", "filters", "later"):
            with self.assertRaises(NoName) as caught:
                begun(DESIGN, STILL, {name: "0"})
            self.assertEqual(caught.exception.who, name)

    def test_no_value(self):
        for value in ["", "z", "00", "2", " 0", "0\n", *NO_TEXTS]:
            for changes in ({"a": value}, {"c": "1", "a": value}, {"a": value, "c": "1"}):
                with self.assertRaises(NoValue):
                    begun(DESIGN, STILL, changes)

    def test_what_is_handed_in_is_not_changed(self):
        values, changes = dict(STILL), {"a": "1"}
        told = begun(DESIGN, values, changes)
        self.assertEqual((values, changes), (STILL, {"a": "1"}))
        values["a"] = changes["a"] = "x"
        self.assertEqual(told, conf(("b", "w"), ("one", "three"), a="1"))


class Doable(unittest.TestCase):
    def told(self, configuration):
        return [doable(DESIGN, configuration, rule=rule) for rule in RULES]

    def test_all_at_once(self):
        full = conf(("b", "w"), ("two", "one"), (("q", "1"),), a="1")
        self.assertEqual(self.told(full), [["b", "w"], ["b", "w", "two", "one"]])

    def test_blocks_behind_the_filters_or_ahead_of_them(self):
        stirred = conf((), ("two", "one"), (("q", "1"),), a="1")
        self.assertEqual(self.told(stirred), [["filters"], ["two", "one"]])
        self.assertEqual(self.told(conf((), (), (("q", "1"),), a="1")), [["filters"], ["filters"]])

    def test_blocks_where_no_filter_would_change(self):
        self.assertEqual(self.told(conf((), ("three",), (("q", "1"),))), [["three"], ["three"]])

    def test_later_if_something_is_told(self):
        self.assertEqual(self.told(conf((), (), (("q", "1"),))), [["later"], ["later"]])
        self.assertEqual(self.told(conf((), (), (("q", "0"),))), [["later"], ["later"]])

    def test_nothing(self):
        self.assertEqual(self.told(conf()), [[], []])
        self.assertEqual(self.told(conf(w="1", v="0", b="11")), [[], []])

    def test_the_rule_that_is_left_out_is_settled(self):
        full = conf(("b", "w"), ("two", "one"), (("q", "1"),), a="1")
        self.assertEqual(doable(DESIGN, full), ["b", "w"])
        self.assertEqual(doable(DESIGN, conf((), ("one",), a="1")), ["filters"])
        with self.assertRaises(TypeError):
            doable(DESIGN, full, "free")

    def test_told_lists_are_the_askers_own(self):
        for configuration in (conf(("b", "w"), ("two",)), conf((), ("two",)), conf(a="1"),
                              conf((), (), (("q", "1"),)), conf()):
            for rule in RULES:
                first = doable(DESIGN, configuration, rule=rule)
                kept = list(first)
                self.assertIs(type(first), list)
                first.append("more")
                self.assertEqual(doable(DESIGN, configuration, rule=rule), kept)


class Done(unittest.TestCase):
    def test_a_wire(self):
        self.assertEqual(done(DESIGN, conf(("b", "w"), ("one",), a="1"), "w"),
                         conf(("b", "v"), ("one",), a="1", w="1"))
        self.assertEqual(done(DESIGN, conf(("v",), w="1"), "v"), conf(w="1", v="0"))

    def test_a_wire_that_stays_as_it_is(self):
        self.assertEqual(done(DESIGN, conf(("w", ), ("two",), (("q", "1"),)), "w"), conf((), ("two",), (("q", "1"),)))

    def test_a_wire_whose_edge_wakes(self):
        self.assertEqual(done(DESIGN, conf(("w",), w="1"), "w"), conf(("v",), ("two",)))
        self.assertEqual(done(DESIGN, conf(("w",), ("one",), w="1"), "w"), conf(("v",), ("two", "one")))
        self.assertEqual(done(DESIGN, conf(("w",), w="x"), "w"), conf(("v",)))

    def test_a_bus(self):
        for values, expected in (({"a": "1"}, "01"), ({"c": "1"}, "1x"), ({}, "zz"), ({"a": "1", "c": "1"}, "xx"),
                                 ({"c": "x"}, "xx"), ({"a": "1", "c": "1", "k": "1"}, "1x")):
            before = conf(("b", "w"), (), **{"b": "00", **values})
            self.assertEqual(done(DESIGN, before, "b"), conf(("w",), (), **{**values, "b": expected}))

    def test_by_the_values_as_they_stand(self):
        self.assertEqual(done(DESIGN, conf(("v", "w"), a="1"), "v"), conf(("w",), a="1"))

    def test_a_block(self):
        self.assertEqual(done(DESIGN, conf((), ("two", "one")), "two"),
                         conf(("b", "w"), ("one",), (("q", "0"),), k="1"))
        self.assertEqual(done(DESIGN, conf((), ("two", "one"), (("q", "0"),)), "one"),
                         conf((), ("two",), (("q", "1"),)))
        self.assertEqual(done(DESIGN, conf((), ("three",), (("q", "0"),)), "three"), conf((), (), (("q", "0"),)))

    def test_a_block_that_wakes_itself(self):
        turn = (("now", "k", ("not", K)), ("now", "q", ONE))
        design = Design([("kept", "k", 1, "0"), ("kept", "q", 1, "0")], [("blk", "rise", "k", turn)])
        self.assertEqual(done(design, (("0", "0"), (), ("blk",), ()), "blk"), (("1", "1"), (), ("blk",), ()))
        self.assertEqual(done(design, (("1", "0"), (), ("blk",), ()), "blk"), (("0", "1"), (), (), ()))

    def test_a_block_sets_all_at_once_behind_its_body(self):
        body = (("now", "k", ONE), ("now", "q", ("is", "x")), ("now", "q", K), ("now", "k", ZERO))
        signals = [("input", "a", 1, None), ("kept", "k", 1, "0"), ("kept", "q", 1, "0")]
        design = Design(signals, [("blk", "rise", "a", body), ("other", "rise", "k", ()), ("more", "rise", "q", ())])
        self.assertEqual(done(design, (("1", "0", "0"), (), ("blk",), ()), "blk"), (("1", "0", "1"), (), ("more",), ()))

    def test_what_is_told_stands_in_order_and_in_the_place_of_what_was(self):
        signals = [("input", "a", 1, None)] + [("kept", name, 2, "00") for name in ("r", "k", "q", "m")]
        body = (("later", "q", ("is", "01")), ("later", "k", ("is", "10")), ("now", "r", ("is", "11")))
        blocks = [("one", "rise", "a", body), ("two", "rise", "a", (("later", "m", ("is", "00")),))]
        design = Design(signals, blocks)
        values = ("1", "00", "00", "00", "00")
        behind = ("1", "11", "00", "00", "00")
        for told, expected in (
            ((), (("k", "10"), ("q", "01"))),
            ((("m", "11"),), (("k", "10"), ("q", "01"), ("m", "11"))),
            ((("k", "11"), ("m", "11")), (("k", "10"), ("q", "01"), ("m", "11"))),
            ((("k", "10"), ("q", "xx")), (("k", "10"), ("q", "01"))),
        ):
            self.assertEqual(done(design, (values, (), ("one", "two"), told), "one"), (behind, (), ("two",), expected))

    def test_filters(self):
        self.assertEqual(done(DESIGN, conf(("b",), ("one",), (("q", "1"),), a="1"), "filters"),
                         conf(("b",), ("one",), (("q", "1"),), a="1", f="1"))

    def test_filters_all_at_once_with_what_hangs_on_them(self):
        signals = [
            ("input", "a", 1, None), ("filter", "f", 1, A), ("filter", "g", 1, ("not", A)), ("filter", "h", 1, ONE),
            ("wire", "w", 1, ("and", ("of", "f"), ("of", "g"))), ("wire", "v", 1, ("of", "h")),
        ]
        design = Design(signals, [("up", "rise", "f", ()), ("down", "fall", "g", ()), ("idle", "fall", "h", ())])
        self.assertEqual(done(design, (("1", "0", "1", "1", "0", "1"), (), (), ()), "filters"),
                         (("1", "1", "0", "1", "0", "1"), ("w",), ("up", "down"), ()))

    def test_later(self):
        self.assertEqual(done(DESIGN, conf(("b",), ("one",), (("q", "1"),)), "later"), conf(("b",), ("one",), q="1"))

    def test_later_all_at_once_with_what_hangs_on_it(self):
        signals = [("kept", "k", 1, "0"), ("kept", "q", 1, "1"), ("wire", "w", 1, ("xor", K, Q)), ("input", "a", 1, None)]
        body = (("later", "k", ONE), ("later", "q", ONE))
        design = Design(signals, [("blk", "rise", "k", body), ("other", "fall", "q", ())])
        told = (("k", "1"), ("q", "0"))
        self.assertEqual(done(design, (("0", "1", "1", "0"), (), (), told), "later"),
                         (("1", "0", "1", "0"), ("w",), ("blk", "other"), ()))

    def test_filters_and_later_that_change_nothing(self):
        for configuration in (conf(), conf(("b", "w"), ("one", "three"))):
            self.assertEqual(done(DESIGN, configuration, "filters"), configuration)
            self.assertEqual(done(DESIGN, configuration, "later"), configuration)
        self.assertEqual(done(DESIGN, conf(("b",), ("one",), (("q", "0"),)), "later"), conf(("b",), ("one",)))

    def test_by_no_rule(self):
        full = conf(("b",), ("three",), (("q", "1"),), a="1")
        for thing, expected in (
            ("b", conf((), ("three",), (("q", "1"),), a="1", b="01")),
            ("three", conf(("b",), (), (("q", "1"),), a="1")),
            ("filters", conf(("b",), ("three",), (("q", "1"),), a="1", f="1")),
            ("later", conf(("b",), ("three",), (), a="1", q="1")),
        ):
            self.assertEqual(done(DESIGN, full, thing), expected)

    def test_no_name(self):
        full = conf(("b", "w"), ("one", "three"), (("q", "1"),))
        for thing in ("v", "two", "a", "q", "f", "nobody", "", "B", "filter", "Later", "later ", "settled"):
            with self.assertRaises(NoName) as caught:
                done(DESIGN, full, thing)
            self.assertEqual(caught.exception.who, thing)
        for thing in ("b", "one"):
            with self.assertRaises(NoName) as caught:
                done(DESIGN, conf(), thing)
            self.assertEqual(caught.exception.who, thing)

    def test_what_is_handed_in_is_not_changed_and_told_again(self):
        full = conf(("b", "w"), ("two", "one"), (("q", "1"),), a="1")
        kept = conf(("b", "w"), ("two", "one"), (("q", "1"),), a="1")
        for thing in ("b", "w", "two", "one", "filters", "later"):
            first = done(DESIGN, full, thing)
            self.assertEqual(full, kept)
            self.assertEqual(done(DESIGN, full, thing), first)
            self.assertEqual([type(part) for part in (first, *first)], [tuple] * 5)


class Drawn(unittest.TestCase):
    def drawn_configuration(self, source, machine, design):
        values = {row[1]: drawn_value(source, row[2], "01xz" if row[0] == "bus" else "01x") for row in design.signals()}
        later = [name for name in machine.order if any(
            statement[0] == "later" and statement[1] == name for block in design.blocks() for statement in block[3]
        )]
        return machine.closed([
            values,
            {name for name in machine.of_sorts("wire", "bus") if source.random() < 0.4},
            {block[0] for block in design.blocks() if source.random() < 0.5},
            {name: drawn_value(source, machine.rows[name][2], "01x") for name in later if source.random() < 0.5},
        ])

    def test_against_the_words(self):
        source = source_of("configurations")
        for _ in range(200):
            signals, blocks = drawn_any(source)
            design, machine = Design(signals, blocks), Machine(signals, blocks)
            for _ in range(6):
                here = self.drawn_configuration(source, machine, design)
                for rule in RULES:
                    self.assertEqual(doable(design, here, rule=rule), machine.doable(here, rule))
                for thing in [*here[1], *here[2], "filters", "later"]:
                    self.assertEqual(done(design, here, thing), machine.done(here, thing))
                values = dict(zip(machine.order, here[0]))
                changes = drawn_put(source, signals, "01x")
                self.assertEqual(begun(design, values, changes), machine.begun(values, changes))

    def test_from_settled_values(self):
        source = source_of("begun")
        for _ in range(100):
            signals, blocks = drawn_any(source)
            design, machine = Design(signals, blocks), Machine(signals, blocks)
            values = NetRun(design).all_values()
            changes = drawn_put(source, signals)
            here = begun(design, values, changes)
            self.assertEqual(here, machine.begun(values, changes))
            self.assertEqual(begun(design, values), (tuple(values.values()), (), (), ()))
            self.assertEqual(doable(design, begun(design, values)), [])

    def test_the_samples(self):
        design, machine = Design(SIGNALS, BLOCKS), Machine(SIGNALS, BLOCKS)
        values = NetRun(design).all_values()
        here = begun(design, {**values, "clk": "0"}, {"clk": "1", "d": "0011"})
        self.assertEqual(here[1:], (("w", "b"), ("up",), ()))
        while things := doable(design, here):
            there = done(design, here, things[0])
            self.assertEqual(there, machine.done(here, things[0]))
            here = there


if __name__ == "__main__":
    unittest.main()
