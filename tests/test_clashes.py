"""Point [11]: what makes no design, and in which order it is looked for."""

import itertools
import unittest

from deltawires.designs import Design
from deltawires.errors import Clash, WireError
from designsamples import (
    A, BLOCKS, ONE, SIGNALS, ZERO, bus_row, filter_row, full_blocks, full_body, full_signals, wire_row,
)
from drawing import fan, nested
from samples import NO_TEXTS

INPUT = ("input", "a", 1, None)
KEPT = ("kept", "k", 1, "0")
K = ("of", "k")
NO_TEXT_NAMES = [thing for thing in NO_TEXTS if not isinstance(thing, str)]
NO_NAMES = ["", "A", "1a", "a b", "abcdefghi", "a_b", "not", "part", "is", "of", "at", "filters", "later", " a", "a\n"]
TERMS_THAT_ARE_NONE = [
    None, 0, True, "a", "", [], (), ["of", "a"], ("of",), ("of", "A"), ("is", "z"), ("is", 0), ("a",), (A,),
    ("nots", A),
    ("part", A, 0, 1), ("part", A, True, 0), nested(11), nested(40), fan(61), ("not", ["of", "a"]), ("of", ["a"]), {},
]
TERMS_THAT_DO_NOT_FIT = [
    ("of", "nobody"), ("of", "c"), ("is", "00"), ("join", A, A), ("part", A, 1, 1), ("part", A, 1, 0),
    ("not", ("of", "c")),
    ("and", A, ("of", "c")), ("same", A, ("of", "c")), ("pick", ("of", "c"), A, A), ("not", ("of", "blk")),
]


def deep_thing(make, many=30):
    thing = None
    for _ in range(many):
        thing = make(thing)
    return thing


DEEP_THINGS = [
    deep_thing(lambda inner: [inner]), deep_thing(lambda inner: (inner,)), deep_thing(lambda inner: {"a": inner}),
    deep_thing(lambda inner: ("if", ONE, (inner,), ())), deep_thing(lambda inner: ("not", inner)),
    deep_thing(lambda inner: ("and", inner, inner)), deep_thing(lambda inner: (inner, inner, inner, inner)),
    deep_thing(lambda inner: ("if", A, (inner, inner), (inner,))),
    deep_thing(lambda inner: (("if", A, inner, inner),), 10),
]


class Clashes(unittest.TestCase):
    def clash(self, kind, who, signals, blocks=()):
        with self.assertRaises(Clash) as caught:
            Design(signals, blocks)
        self.assertEqual((caught.exception.kind, caught.exception.who), (kind, who))
        self.assertIs(type(caught.exception.who), str)

    def fine(self, signals, blocks=()):
        self.assertEqual(len(Design(signals, blocks)), len(signals))


class Signals(Clashes):
    def test_its_class(self):
        with self.assertRaises(WireError):
            Design(None)

    def test_signals_that_are_no_list(self):
        for thing in [None, 0, True, "", "abc", (), (INPUT,), {}, {"a": INPUT}, b"", {1}, object(), Design,
                      len] + DEEP_THINGS[1:]:
            for blocks in ((), [], None, [None], BLOCKS, [None] * 7):
                self.clash("row", "signals", thing, blocks)

    def test_rows_that_are_none(self):
        wrong = [None, 0, "", "input", (), ("input",), ("input", "b"), ("input", "b", 1), ("input", "b", 1, None, None),
                 ["input", "b", 1, None], list(INPUT), {}, {"input": "b"}, object(), b"abcd", "abcd",
                 ((),)] + DEEP_THINGS
        for thing in wrong:
            for at in range(4):
                rows = [("input", f"i{number}", 1, None) for number in range(4)]
                rows.insert(at, thing)
                self.clash("row", str(at), rows)
            self.clash("row", "0", [thing])
            self.clash("row", "1", [INPUT, thing])
            self.clash("row", "4", [("input", f"i{number}", 1, None) for number in range(4)] + [thing])

    def test_sorts_that_are_none(self):
        for sort in ("", "Input", "input ", "inputs", "output", "wires", "reg", "block", "not", None, 0, True,
                     ["input"],
                     ("input",), {"input": 1}, b"input", {}):
            self.clash("row", "0", [(sort, "b", 1, None)])
            self.clash("row", "1", [INPUT, (sort, "A", 0, None)])

    def test_rows_are_told_by_their_number_from_nought(self):
        rows = [("input", f"i{number}", 1, None) for number in range(30)]
        for at in (0, 9, 10, 11, 23, 24, 29):
            self.clash("row", str(at), rows[:at] + [None] + rows[at:])

    def test_names_that_are_none(self):
        for name in NO_NAMES + ["a" * 6000]:
            for row in (("input", name, 1, None), ("kept", name, 1, "0"), ("wire", name, 1, ONE),
                        ("bus", name, 0, None)):
                self.clash("name", name, [row])
                self.clash("name", name, [INPUT, row])

    def test_names_that_are_no_texts(self):
        for name in NO_TEXT_NAMES + [["a"], ("a",), {"a": 1}, b"a"] + DEEP_THINGS:
            self.clash("name", "0", [("input", name, 1, None)])
            self.clash("name", "2", [INPUT, KEPT, ("kept", name, 1, "0")])

    def test_names_again(self):
        for row in (("input", "a", 2, None), ("kept", "a", 1, "0"), ("wire", "a", 1, ONE), ("filter", "a", 1, ONE),
                    bus_row("a"), ("input", "a", 0, None)):
            self.clash("again", "a", [INPUT, row])
            self.clash("again", "a", [INPUT, KEPT, row])
        self.clash("again", "k", [INPUT, KEPT, KEPT, INPUT])
        self.clash("again", "a", [INPUT, KEPT, INPUT, KEPT])
        self.fine([INPUT, ("input", "aa", 1, None), ("input", "a1", 1, None)])

    def test_widths(self):
        for width in (0, -1, 9, 10, 10 ** 40, -10 ** 40, True, False, None, "1", "", (1,), [1], {}, b"1"):
            for row in (("input", "b", width, None), ("kept", "b", width, "0"), ("wire", "b", width, ONE),
                        ("bus", "b", width, 0)):
                self.clash("width", "b", [row])
                self.clash("width", "b", [INPUT, row, KEPT])
        for width in range(1, 9):
            self.fine([("input", "b", width, None)])


class Many(Clashes):
    def test_just_kept(self):
        self.fine(full_signals(), full_blocks())
        self.fine([("input", f"i{at}", 1, None) for at in range(24)])
        self.fine([("kept", f"i{at}", 1, "0") for at in range(24)])
        self.fine([wire_row(f"w{at}") for at in range(8)])
        self.fine([bus_row(f"w{at}") for at in range(8)])
        self.fine([filter_row(f"f{at}") for at in range(24)])

    def test_twenty_five_signals(self):
        for row in (("input", "b", 1, None), ("kept", "b", 1, "0"), filter_row("b"), wire_row("b"), bus_row("b")):
            self.clash("many", "signals", full_signals() + [row])
            self.clash("many", "signals", [row] + full_signals(), full_blocks() * 2)
        self.clash("many", "signals", [("input", f"i{at}", 1, None) for at in range(300)])

    def test_nine_wires_and_buses(self):
        for buses in range(10):
            rows = [wire_row(f"w{at}") for at in range(9 - buses)] + [bus_row(f"b{at}") for at in range(buses)]
            self.clash("many", "wires", rows)
            self.clash("many", "wires", rows[::-1], [None] * 7)
            self.fine(rows[1:])
            self.fine(rows[:-1])
            self.clash("many", "wires", [filter_row(f"f{at}") for at in range(15)] + rows)

    def test_seven_blocks(self):
        blocks = [(f"p{at}", "rise", "a", ()) for at in range(7)]
        self.fine([INPUT], blocks[:6])
        self.clash("many", "blocks", [INPUT], blocks)
        self.clash("many", "blocks", [], [None] * 7)
        self.clash("many", "blocks", [INPUT, ("kept", "k", 1, "z")], [None] * 100)

    def test_seven_blocks_in_a_tuple_are_no_list(self):
        self.clash("row", "blocks", [INPUT], tuple([(f"p{at}", "rise", "a", ()) for at in range(7)]))
        self.clash("what", "k", [INPUT, ("kept", "k", 1, "z")], (None,) * 7)


class What(Clashes):
    base = [INPUT, ("input", "c", 2, None)]

    def test_inputs(self):
        for what in (0, 1, "", "0", "x", False, True, (), [], ONE, {}):
            self.clash("what", "b", [("input", "b", 1, what)])

    def test_wires_and_filters(self):
        for sort in ("wire", "filter"):
            for what in TERMS_THAT_ARE_NONE + TERMS_THAT_DO_NOT_FIT + DEEP_THINGS + [((A, A), (A, A))]:
                self.clash("what", "b", self.base + [(sort, "b", 1, what)])
                self.clash("what", "b", [(sort, "b", 1, what)] + self.base)
            for what in (A, ONE, ("any", ("of", "c")), ("part", ("of", "c"), 1, 1), nested(10), fan(60)):
                self.fine(self.base + [(sort, "b", 1, what)])

    def test_the_terms_width_is_that_of_the_signal(self):
        for sort in ("wire", "filter"):
            for width in range(1, 9):
                for other in range(1, 9):
                    rows = [("input", "i", other, None), (sort, "b", width, ("not", ("of", "i")))]
                    if width == other:
                        self.fine(rows)
                    else:
                        self.clash("what", "b", rows)

    def test_kept(self):
        for what in ("z", "", "00", "2", " ", "0 ", None, 0, True, ("0",), ["0"], ("is", "0"), b"0",
                     {}) + tuple(DEEP_THINGS):
            self.clash("what", "b", [("kept", "b", 1, what)])
        for what in ("0z", "zx", "0", "000"):
            self.clash("what", "b", [INPUT, ("kept", "b", 2, what)])
        for what in ("0", "1", "x"):
            self.fine([("kept", "b", 1, what)])

    def test_buses_that_are_none(self):
        driver = (A, ONE)
        for what in (None, (), (driver,), (driver,) * 5, (driver,) * 300, [driver, driver], driver,
                     (driver, list(driver)),
                     (driver, ()), (driver, (A,)), (driver, (A, ONE, ONE)), (driver, None), ([A, ONE], driver), A, "ab",
                     (A, A), {"a": driver}, ((driver, driver),)) + tuple(DEEP_THINGS):
            self.clash("what", "b", self.base + [("bus", "b", 1, what)])
        for many in (2, 3, 4):
            self.fine(self.base + [("bus", "b", 1, (driver,) * many)])

    def test_drivers_at_each_place(self):
        for many in (2, 3, 4):
            for at in range(many):
                for wrong in TERMS_THAT_ARE_NONE + TERMS_THAT_DO_NOT_FIT + DEEP_THINGS:
                    for driver in ((wrong, A), (A, wrong)):
                        drivers = [(A, ONE)] * many
                        drivers[at] = driver
                        self.clash("what", "b", self.base + [("bus", "b", 1, tuple(drivers))])

    def test_widths_of_drivers(self):
        c = ("of", "c")
        self.fine(self.base + [("bus", "b", 2, ((A, c), (ONE, ("is", "0x"))))])
        self.clash("what", "b", self.base + [("bus", "b", 2, ((c, c), (ONE, c)))])
        self.clash("what", "b", self.base + [("bus", "b", 2, ((A, c), (ONE, A)))])
        self.clash("what", "b", self.base + [("bus", "b", 2, ((A, A), (ONE, A)))])
        self.clash("what", "b", self.base + [("bus", "b", 1, ((A, c), (ONE, c)))])

    def test_names_of_signals_behind_and_of_itself(self):
        self.fine([("wire", "b", 2, ("of", "c"))] + self.base)
        self.clash("ring", "b", self.base + [("wire", "b", 1, ("of", "b"))])

    def test_the_first_in_order(self):
        rows = [("kept", "p", 1, "z"), ("input", "q", 1, 0), ("wire", "r", 1, None), ("bus", "s", 1, None)]
        for order in itertools.permutations(rows):
            self.clash("what", order[0][1], list(order))
            self.clash("what", order[0][1], self.base + list(order))


class Blocks(Clashes):
    base = [INPUT, ("input", "c", 2, None), KEPT, ("kept", "q", 2, "00"), wire_row("w", "a"), filter_row("f", "a"),
            bus_row("b")]

    def refused(self, kind, who, *blocks):
        self.clash(kind, who, self.base, list(blocks))

    def body(self, *statements):
        return ("blk", "rise", "a", statements)

    def test_blocks_that_are_no_list(self):
        for thing in [None, 0, True, "", "abc", ((),), (None,), {}, b"", {1}, object(), tuple(BLOCKS),
                      set()] + DEEP_THINGS[1:]:
            self.clash("row", "blocks", self.base, thing)
            self.clash("row", "blocks", [], thing)

    def test_rows_that_are_none(self):
        good = ("good", "rise", "a", ())
        for thing in [None, 0, "", "abcd", (), ("b1",), ("b1", "rise", "a"), ("b1", "rise", "a", (), ()), {}, b"abcd",
                      ["b1", "rise", "a", ()]]:
            self.refused("row", "0", thing)
            self.refused("row", "1", good, thing)
            self.refused("row", "0", thing, good)
            self.refused("row", "3", good, ("good1", "rise", "a", ()), ("good2", "rise", "a", ()), thing)
        for thing in DEEP_THINGS:
            with self.assertRaises(Clash):
                Design(self.base, [thing])

    def test_names(self):
        for name in NO_NAMES:
            self.refused("name", name, (name, "rise", "a", ()))
            self.refused("name", name, ("good", "rise", "a", ()), (name, None, None, None))
        for name in NO_TEXT_NAMES + [["blk"], ("blk",)] + DEEP_THINGS:
            self.refused("name", "0", (name, "rise", "a", ()))
            self.refused("name", "1", ("good", "rise", "a", ()), (name, None, None, None))

    def test_again(self):
        for name in ("a", "c", "k", "q", "w", "f", "b"):
            self.refused("again", name, (name, "rise", "a", ()))
            self.refused("again", name, ("good", "rise", "a", ()), (name, None, None, None))
        self.refused("again", "blk", self.body(), self.body())
        self.refused("again", "blk", self.body(), ("good", "rise", "a", ()), ("blk", "fall", "k", None))
        self.fine(self.base, [self.body(), ("blk1", "rise", "a", ())])

    def test_edges(self):
        for edge in ("", "Rise", "rises", "falls", "both", "rise ", "01", "1", "0", None, 0, 1, True, ["rise"],
                     ("rise",),
                     {"rise": 1}, b"rise") + tuple(DEEP_THINGS):
            self.refused("edge", "blk", ("blk", edge, "a", ()))
            self.refused("edge", "blk", ("blk", edge, "nobody", None))
        for edge in ("rise", "fall"):
            self.fine(self.base, [("blk", edge, "a", ())])

    def test_triggers(self):
        for trigger in ("", "c", "q", "nobody", "blk", "good", "A", "a ", None, 0, True, ["a"], ("a",), A, {"a": 1},
                        b"a") + tuple(
                DEEP_THINGS):
            self.refused("trigger", "blk", ("good", "rise", "a", ()), ("blk", "rise", trigger, ()))
            self.refused("trigger", "blk", ("blk", "fall", trigger, None))
        for trigger in ("a", "k", "w", "f", "b"):
            self.fine(self.base, [("blk", "rise", trigger, ())])

    def test_bodies_that_are_none(self):
        setting = ("now", "k", A)
        for body in [None, 0, "", "now", [], [setting], {}, setting, A, ("now",), (None,), ((),), ([],),
                     (list(setting),),
                     ((setting,),), ("if", A, (), ()), b"", (A,)] + DEEP_THINGS:
            self.refused("body", "blk", ("blk", "rise", "a", body))

    def wrong_statements(self):
        found = [None, 0, "now", (), [], ("now",), ("now", "k"), ("now", "k", A, A), ("later", "k"),
                 ("later", "k", A, ()),
                 ("Now", "k", A), ("", "k", A), ("set", "k", A), (None, "k", A), (["now"], "k", A), (("now",), "k", A),
                 ["now", "k", A], ("now", A, "k"), ("if", A), ("if", A, ()), ("if", A, (), (), ()), ("if", "a", (), ()),
                 ("if", A, [], ()), ("if", A, (), []), ("if", A, None, ()), ("if", A, (), None),
                 ("if", ("of", "c"), (), ()),
                 ["if", A, (), ()], ("IF", A, (), ()), ("else", A, (), ()), ("if", (), A, ()), ("now", "q", A),
                 ("later", "q", ONE), ("now", "k", ("of", "q")), ("if", ("of", "q"), (), ()), ("of", "a"),
                 ("if", A, ("now", "k", A), ()), ("if", A, (), ("now", "k", A)), ("if", A, "", ())]
        for word in ("now", "later"):
            for name in ("a", "c", "w", "f", "b", "blk", "nobody", "", "K", None, 0, ["k"], ("k",), K, {"k": 1}, b"k"):
                found.append((word, name, A))
            found += [(word, "k", term) for term in TERMS_THAT_ARE_NONE + TERMS_THAT_DO_NOT_FIT + DEEP_THINGS]
        found += [("if", term, (), ()) for term in TERMS_THAT_ARE_NONE + TERMS_THAT_DO_NOT_FIT + DEEP_THINGS]
        return found

    def test_statements_at_each_place(self):
        good = ("now", "k", A)
        for wrong in self.wrong_statements():
            for body in ((wrong,), (good, wrong), (wrong, good), (("if", A, (wrong,), ()),),
                         (("if", A, (good,), (good, wrong)),),
                         (("if", A, (("if", K, (), (wrong,)),), ()), good),
                         (("if", A, (), (("if", K, (), (("if", K, (wrong,), ()),)),)),)):
                self.refused("body", "blk", ("blk", "rise", "a", body))
            self.refused("body", "blk", ("good", "rise", "a", (good,)), ("blk", "rise", "a", (wrong,)))

    def test_good_statements(self):
        c, q = ("of", "c"), ("of", "q")
        self.fine(self.base, [self.body(
            ("now", "k", A), ("later", "q", c), ("if", ("less", c, q), (), ()),
            ("if", ("of", "b"), (("now", "k", ("of", "f")), ("if", ("of", "w"), (), (("later", "q", q),))),
             (("now", "k", K),)),
        )])

    def test_twenty_statements_and_twenty_one(self):
        setting = ("now", "k", A)
        self.fine(self.base, [self.body(*[setting] * 20)])
        self.refused("body", "blk", self.body(*[setting] * 21))
        self.refused("body", "blk", self.body(*[setting] * 2000))
        for within in range(20):
            for first in (0, within // 2, within):
                choice = ("if", A, (setting,) * first, (setting,) * (within - first))
                self.fine(self.base, [self.body(*[setting] * (19 - within), choice)])
                self.refused("body", "blk", self.body(*[setting] * (20 - within), choice))
        self.fine(self.base, [self.body(*[("if", A, (), ())] * 20)])
        self.refused("body", "blk", self.body(*[("if", A, (), ())] * 21))
        self.refused("body", "blk", self.body(*[("if", A, (setting,), ())] * 10, setting))
        self.fine(self.base, [self.body(*[("if", A, (setting,), ())] * 10)])

    def test_twenty_in_each_of_six_blocks(self):
        self.fine(full_signals(), full_blocks())
        for at in range(6):
            blocks = full_blocks()
            blocks[at] = blocks[at][:3] + (full_body() + (("now", "k0", ONE),),)
            self.clash("body", f"p{at}", full_signals(), blocks)

    def test_four_within_one_another_and_five(self):
        for place in itertools.product((0, 1), repeat=4):
            for last in (("now", "k", A), ("later", "k", A), ("if", A, (), ())):
                inner = (last,)
                for many, first in enumerate(place, start=2):
                    bodies = (inner, ()) if first == 0 else ((), inner)
                    inner = (("if", A, *bodies),)
                    if many <= 4:
                        self.fine(self.base, [self.body(*inner)])
                    else:
                        self.refused("body", "blk", self.body(*inner))

    def test_one_tuple_that_stands_very_often(self):
        body = (("now", "k", A),)
        for _ in range(12):
            body = (("if", A, body, body), ("if", A, body, body))
        self.refused("body", "blk", ("blk", "rise", "a", body))

    def test_in_turn(self):
        wrong = {
            "row": (None, None), "name": ("A", "A"), "again": ("a", "a"), "edge": ("e1", "e1"), "trigger": ("t1", "t1"),
            "body": ("y1", "y1"),
        }

        def made(kind):
            if kind == "row":
                return None
            name = wrong[kind][0]
            return {
                "name": (name, 0, 0, 0), "again": (name, 0, 0, 0), "edge": (name, 0, 0, 0),
                "trigger": (name, "rise", 0, 0),
                "body": (name, "fall", "a", 0),
            }[kind]

        for one, other in itertools.permutations(wrong, 2):
            who = "0" if one == "row" else wrong[one][1]
            self.refused(one, who, made(one), made(other))


class Both(Clashes):
    base = [("input", "a", 1, None)] + [("kept", f"k{at}", 1, "0") for at in range(4)]

    def now(self, at):
        return ("now", f"k{at}", A)

    def later(self, at):
        return ("later", f"k{at}", A)

    def blocks(self, *bodies):
        return [(f"b{at}", "rise", "a", body) for at, body in enumerate(bodies)]

    def arrangements(self, one, other):
        """Two statements in one body, in two, and within ifs, in either order."""
        for first, second in ((one, other), (other, one)):
            yield self.blocks((first, second))
            yield self.blocks((first,), (second,))
            yield self.blocks((first,), (), (second,))
            yield self.blocks((("if", A, (first,), (second,)),))
            yield self.blocks((("if", A, (first, second), ()),))
            yield self.blocks((("if", A, (), (first, second)),))
            yield self.blocks((("if", A, (first,), ()), second))
            yield self.blocks((first, ("if", A, (), (("if", A, (), (("if", A, (second,), ()),)),))))
            yield self.blocks((("if", ZERO, (first,), ()),), (("if", ONE, (), (second,)),))
            yield self.blocks((), (("if", A, (("if", A, (), (first,)),), ()),), (), (), (), (second,))

    def test_each_arrangement(self):
        for at in range(4):
            for blocks in self.arrangements(self.now(at), self.later(at)):
                self.clash("both", f"k{at}", self.base, blocks)
            for blocks in self.arrangements(self.now(at), self.later((at + 1) % 4)):
                self.fine(self.base, blocks)
            for blocks in self.arrangements(self.now(at), self.now(at)):
                self.fine(self.base, blocks)
            for blocks in self.arrangements(self.later(at), self.later(at)):
                self.fine(self.base, blocks)

    def test_the_first_in_the_signals_order(self):
        for at, other in itertools.permutations(range(4), 2):
            body = (self.now(at), self.later(other), self.now(other), self.later(at))
            self.clash("both", f"k{min(at, other)}", self.base, self.blocks(body))
            self.clash("both", f"k{max(at, other)}", self.base[::-1], self.blocks(body[:2], body[2:]))


class Rings(Clashes):
    makers = (wire_row, bus_row, filter_row)

    def test_itself(self):
        for make in self.makers:
            self.clash("ring", "r", [INPUT, make("r", "r")])
            self.clash("ring", "r", [INPUT, make("r", "a", "r")])
            self.clash("ring", "r", [INPUT, make("r", "a", "a", "r")])
            self.clash("ring", "r", [INPUT, make("r", "a", "a", "a", "r")])

    def test_rings_of_two_and_three(self):
        for makers in itertools.product(self.makers, repeat=2):
            rows = [makers[0]("p", "q"), makers[1]("q", "a", "p"), INPUT]
            for order in itertools.permutations(rows):
                first = [row[1] for row in order if row != INPUT][0]
                self.clash("ring", first, list(order))
        for makers in itertools.product(self.makers, repeat=3):
            rows = [makers[0]("p", "q", "a"), makers[1]("q", "r"), makers[2]("r", "p"), INPUT]
            for order in itertools.permutations(rows):
                first = [row[1] for row in order if row != INPUT][0]
                self.clash("ring", first, list(order))

    def test_of_eight(self):
        rows = [wire_row(f"w{at}", f"w{(at + 1) % 8}") for at in range(8)]
        for at in range(8):
            turned = rows[at:] + rows[:at]
            self.clash("ring", f"w{at}", turned)
            self.clash("ring", f"w{7 - at}", rows[7 - at::-1] + rows[8 - at:])

    def test_what_hangs_on_a_ring_is_in_none(self):
        rows = [wire_row("u", "v"), wire_row("v", "p"), bus_row("p", "q"), wire_row("q", "a", "p"), INPUT,
                wire_row("x", "a")]
        for order in itertools.permutations(rows):
            first = [row[1] for row in order if row[1] in ("p", "q")][0]
            self.clash("ring", first, list(order))

    def test_what_a_ring_hangs_on_is_in_none(self):
        rows = [wire_row("x", "a"), wire_row("p", "q", "x"), wire_row("q", "p", "x"), INPUT]
        for order in itertools.permutations(rows):
            first = [row[1] for row in order if row[1] in ("p", "q")][0]
            self.clash("ring", first, list(order))

    def test_each_place_in_a_bus(self):
        for many in (2, 3, 4):
            for at in range(many):
                for place in (0, 1):
                    drivers = [[ONE, ZERO] for _ in range(many)]
                    drivers[at][place] = ("not", ("of", "r"))
                    self.clash("ring", "r", [("bus", "r", 1, tuple([tuple(driver) for driver in drivers]))])

    def test_over_kept_signals_and_inputs_there_is_none(self):
        signals = [INPUT, ("kept", "k", 1, "0"), wire_row("w", "k"), filter_row("f", "w"), bus_row("b", "f", "w")]
        for order in itertools.permutations(signals):
            self.fine(list(order), [("blk", "rise", "b", (("now", "k", ("of", "w")),))])

    def test_many_ways_are_no_ring(self):
        rows = [wire_row(f"w{at}", "a", *[f"w{other}" for other in range(at)]) for at in range(8)]
        self.fine([INPUT] + rows)
        self.fine(rows[::-1] + [INPUT])


class Filters(Clashes):
    def test_straight_and_over_wires_and_buses(self):
        for make in (wire_row, bus_row):
            rows = [INPUT, filter_row("f", "a"), make("w", "f"), make("v", "a", "w"), filter_row("g", "v")]
            for order in itertools.permutations(rows):
                self.clash("filter", "g", list(order))
        for order in itertools.permutations([INPUT, filter_row("f", "a"), filter_row("g", "f")]):
            self.clash("filter", "g", list(order))

    def test_the_first_in_order(self):
        rows = [filter_row("f", "a"), filter_row("g", "f"), filter_row("h", "g"), filter_row("i", "a", "f")]
        for order in itertools.permutations(rows):
            first = [row[1] for row in order if row[1] != "f"][0]
            self.clash("filter", first, [INPUT] + list(order))

    def test_none_where_wires_alone_hang_on_filters(self):
        rows = [INPUT, filter_row("f", "a", "w"), wire_row("w", "a"), wire_row("v", "f"), filter_row("g", "w"),
                bus_row("b", "f", "g")]
        for order in itertools.permutations(rows):
            self.fine(list(order))

    def test_over_a_kept_signal_there_is_none(self):
        signals = [INPUT, KEPT, filter_row("f", "a"), filter_row("g", "k")]
        self.fine(signals, [("blk", "rise", "a", (("now", "k", ("of", "f")),))])

    def test_rings_go_first(self):
        self.clash("ring", "f", [filter_row("f", "g"), filter_row("g", "f")])
        self.clash("ring", "w", [INPUT, filter_row("f", "a"), filter_row("g", "f"), wire_row("w", "w")])
        self.clash("ring", "f", [INPUT, filter_row("h", "f"), filter_row("f", "f")])


class Order(Clashes):
    """Two faults at once: the one that is looked for first is told. Each fault changes a part of its own."""

    def faults(self):
        def put(rows, *more):
            rows.extend(more)

        # In the order of the document, what is wrong in an earlier signal ahead of a later one.
        return [
            ("row", "9", lambda s, b: s.__setitem__(9, None)),
            ("name", "NO", lambda s, b: s.__setitem__(10, ("input", "NO", 1, None))),
            ("again", "i0", lambda s, b: s.__setitem__(11, ("input", "i0", 1, None))),
            ("width", "wide", lambda s, b: s.__setitem__(12, ("input", "wide", 9, None))),
            ("row", "13", lambda s, b: s.__setitem__(13, ("output", "o", 1, None))),
            ("many", "signals", lambda s, b: put(s, *[("input", f"more{at}", 1, None) for at in range(20)])),
            ("many", "wires", lambda s, b: [s.__setitem__(at, wire_row(f"i{at}")) for at in range(9)]),
            ("many", "blocks", lambda s, b: put(b, *[(f"more{at}x", "rise", "i0", ()) for at in range(7)])),
            ("what", "p", lambda s, b: s.__setitem__(14, ("kept", "p", 1, "z"))),
            ("what", "q", lambda s, b: s.__setitem__(15, ("filter", "q", 1, ("of", "nobody")))),
            ("row", "0", lambda s, b: b.__setitem__(0, None)),
            ("name", "1", lambda s, b: b.__setitem__(1, (None, "rise", "i0", ()))),
            ("again", "k0", lambda s, b: b.__setitem__(2, ("k0", "rise", "i0", ()))),
            ("edge", "b3", lambda s, b: b.__setitem__(3, ("b3", "up", "i0", ()))),
            ("trigger", "b4", lambda s, b: b.__setitem__(4, ("b4", "fall", "nobody", ()))),
            ("body", "b5", lambda s, b: b.__setitem__(5, ("b5", "fall", "i0", (None,)))),
        ]

    def pieces(self):
        signals = [("input", f"i{at}", 1, None) for at in range(16)] + [("kept", "k0", 1, "0"), ("kept", "k1", 1, "0")]
        blocks = [(f"b{at}", "rise", "i0", ()) for at in range(6)]
        return signals, blocks

    def test_each_alone(self):
        self.fine(*self.pieces())
        for kind, who, spoil in self.faults():
            signals, blocks = self.pieces()
            spoil(signals, blocks)
            self.clash(kind, who, signals, blocks)

    def test_each_two(self):
        faults = self.faults()
        for (one, other) in itertools.combinations(faults, 2):
            for order in ((one, other), (other, one)):
                signals, blocks = self.pieces()
                for _, _, spoil in order:
                    spoil(signals, blocks)
                self.clash(one[0], one[1], signals, blocks)

    def test_all_from_each_on(self):
        faults = self.faults()
        for at, (kind, who, _) in enumerate(faults):
            signals, blocks = self.pieces()
            for _, _, spoil in faults[at:]:
                spoil(signals, blocks)
            self.clash(kind, who, signals, blocks)

    def test_blocks_that_are_no_list_at_their_turn(self):
        for kind, who, spoil in self.faults()[:7] + self.faults()[8:10]:
            signals, blocks = self.pieces()
            spoil(signals, blocks)
            for thing in (None, tuple(blocks), "blocks", (None,) * 9, {}):
                self.clash(kind, who, signals, thing)
        ring = [INPUT, wire_row("w", "w"), filter_row("f", "a"), filter_row("g", "f")]
        self.clash("row", "blocks", ring, None)
        self.clash("row", "blocks", ring, ((),))
        self.clash("ring", "w", ring, ())

    def test_within_one_signal(self):
        self.clash("row", "1", [INPUT, ("nosort", "a", 9, 0)])
        self.clash("name", "NO", [INPUT, ("wire", "NO", 9, 0)])
        self.clash("name", "1", [INPUT, ("wire", None, 9, 0)])
        self.clash("again", "a", [INPUT, ("wire", "a", 9, 0)])
        self.clash("width", "b", [INPUT, ("wire", "b", 9, 0)])
        self.clash("what", "b", [INPUT, ("wire", "b", 8, 0)])

    def test_a_signal_ahead_goes_first(self):
        wrong = {"row": None, "name": ("input", "NO", 9, 0), "again": ("input", "a", 9, 0),
                 "width": ("input", "b", 9, 0)}
        who = {"row": "1", "name": "NO", "again": "a", "width": "b"}
        for one, other in itertools.permutations(wrong, 2):
            self.clash(one, who[one], [INPUT, wrong[one], wrong[other]])

    def test_within_one_block(self):
        signals = [INPUT, KEPT]
        self.clash("row", "0", signals, [("NO", 0, 0, 0, 0)])
        self.clash("name", "NO", signals, [("NO", 0, 0, 0)])
        self.clash("name", "0", signals, [(0, 0, 0, 0)])
        self.clash("again", "a", signals, [("a", 0, 0, 0)])
        self.clash("edge", "b", signals, [("b", 0, 0, 0)])
        self.clash("trigger", "b", signals, [("b", "rise", 0, 0)])
        self.clash("body", "b", signals, [("b", "rise", "a", 0)])

    def test_both_ring_and_filter_in_this_order(self):
        both = [("blk", "rise", "a", (("now", "k", A), ("later", "k", A)))]
        ring = wire_row("w", "w")
        filters = [filter_row("f", "a"), filter_row("g", "f")]
        base = [INPUT, KEPT]
        for more in ([ring], filters, filters + [ring]):
            self.clash("both", "k", base + more, both)
            self.clash("both", "k", more + base, both)
        self.clash("ring", "w", filters + [ring] + base)
        self.clash("filter", "g", filters + base)

    def test_they_stand_behind_all_else(self):
        both = ("blk", "rise", "a", (("now", "k", A), ("later", "k", A)))
        signals = [INPUT, KEPT, filter_row("f", "a"), filter_row("g", "f"), wire_row("w", "w")]
        for kind, who, block in (
            ("row", "1", None), ("name", "NO", ("NO", "rise", "a", ())), ("again", "blk", both),
            ("edge", "c", ("c", "", "a", ())),
            ("trigger", "c", ("c", "rise", "q", ())), ("body", "c", ("c", "rise", "a", (None,))),
        ):
            self.clash(kind, who, signals, [both, block])
        self.clash("what", "z", signals + [("kept", "z", 1, "z")], [both])
        self.clash("width", "z", signals + [("kept", "z", 0, "z")], [both])


class HandedIn(Clashes):
    def test_what_is_refused_is_not_changed(self):
        signals = [INPUT, KEPT, wire_row("w", "w")]
        blocks = [("blk", "rise", "a", (("now", "k", A),))]
        self.clash("ring", "w", signals, blocks)
        self.assertEqual(signals, [INPUT, KEPT, wire_row("w", "w")])
        self.assertEqual(blocks, [("blk", "rise", "a", (("now", "k", A),))])

    def test_a_refusal_has_no_bearing_on_what_is_made_behind_it(self):
        for _ in range(2):
            self.clash("again", "a", [INPUT, INPUT])
            self.fine([INPUT])
            self.clash("both", "k", [INPUT, KEPT], [("blk", "rise", "a", (("now", "k", A), ("later", "k", A)))])
            self.fine([INPUT, KEPT], [("blk", "rise", "a", (("later", "k", A),))])
        self.fine(SIGNALS, BLOCKS)

    def test_true_and_false_are_no_whole_numbers(self):
        self.clash("width", "b", [("input", "b", True, None)])
        self.clash("what", "w", [INPUT, ("wire", "w", 1, ("part", A, False, False))])
        self.clash("what", "w", [("input", "a", 2, None), ("wire", "w", 1, ("part", A, True, True))])
        self.clash("body", "blk", [INPUT, KEPT], [("blk", "rise", "a", (("now", "k", ("part", A, 0, False)),))])


if __name__ == "__main__":
    unittest.main()
