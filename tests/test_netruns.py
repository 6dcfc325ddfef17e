"""Point [17], and what [4] says of net runs that are clear."""

import inspect
import itertools
import unittest

from deltawires.designs import Design
from deltawires.errors import NoName, NoValue, Unending
from deltawires.netruns import DELTAS, NetRun
from deltawires.settling import settled
from designsamples import A, BLOCKS, C, K, ONE, Q, SIGNALS, ZERO, full_blocks, full_signals
from drawing import drawn_blocks, drawn_changes, drawn_signals
from oracles import Refused, Run, statements_within
from samples import NO_TEXTS, filled, source_of

CLOCK = ("input", "clk", 1, None)


def inputs(**widths):
    return [("input", name, width, None) for name, width in widths.items()]


def kept(**firsts):
    return [("kept", name, len(first), first) for name, first in firsts.items()]


def run_of(signals, *blocks):
    return NetRun(Design(signals, list(blocks)))


def counter(width=4):
    """Counts the clock's rising edges."""
    step = ("plus", Q, ("is", "1".zfill(width)))
    return run_of([CLOCK] + kept(q="0" * width), ("up", "rise", "clk", (("later", "q", step),)))


def chain(many, word="later"):
    """A rising edge that runs through so many kept signals, one each round."""
    signals = inputs(k0=1) + kept(**{f"k{at}": "0" for at in range(1, many + 1)})
    blocks = []
    for at in range(0, many, 1):
        blocks.append((f"b{at}", "rise", f"k{at}", ((word, f"k{at + 1}", ONE),)))
    return signals, blocks


def swinging(word):
    """Two blocks that turn one signal for ever, once it has risen."""
    setting = (word, "k", ("not", K))
    return run_of(
        inputs(a=1) + kept(k="0"), ("go1", "rise", "a", (setting,)), ("up", "rise", "k", (setting,)),
        ("down", "fall", "k", (setting,)),
    )


def state(run):
    return run.all_values(), run.moments(), run.is_clear()


class First(unittest.TestCase):
    def test_inputs_unknown_kept_ones_at_first_settled(self):
        run = run_of(
            inputs(a=2, c=1) + kept(k="0x1", q="1") + [
                ("wire", "w", 3, ("plus", K, ("is", "001"))), ("bus", "b", 1, ((Q, ZERO), (ZERO, C))),
                ("filter", "f", 1, ("and", Q, C)),
            ],
        )
        self.assertEqual(run.all_values(), {"a": "xx", "c": "x", "k": "0x1", "q": "1", "w": "xx0", "b": "0", "f": "x"})
        self.assertEqual((run.moments(), run.is_clear()), (0, True))

    def test_a_block_is_not_woken_at_first(self):
        run = run_of(kept(k="1", q="0"), ("up", "rise", "k", (("now", "q", ONE),)),
                     ("down", "fall", "q", (("now", "k", ZERO),)))
        self.assertEqual(run.moment(), 0)
        self.assertEqual(run.all_values(), {"k": "1", "q": "0"})

    def test_nothing(self):
        run = run_of([])
        self.assertEqual((run.moment(), run.all_values(), run.moments(), run.is_clear()), (0, {}, 1, True))

    def test_drawn(self):
        source = source_of("first")
        for _ in range(40):
            signals = drawn_signals(source)
            design = Design(signals, drawn_blocks(source, signals, 2))
            given = {row[1]: "x" * row[2] if row[0] == "input" else row[3] for row in signals
                     if row[0] in ("input", "kept")}
            self.assertEqual(NetRun(design).all_values(), settled(design, given))

    def test_limit(self):
        self.assertEqual(DELTAS, 40)
        self.assertIs(type(DELTAS), int)
        self.assertEqual(inspect.signature(NetRun.moment).parameters["deltas"].default, 40)


class Edges(unittest.TestCase):
    def woken(self, edge, *values):
        """How often a block is woken by these values of its trigger in turn."""
        run = run_of(inputs(a=1) + kept(q="0000"), ("blk", edge, "a", (("later", "q", ("plus", Q, ("is", "0001"))),)))
        for value in values:
            run.moment({"a": value})
        return int(run.value("q"), 2)

    def test_each_two_values(self):
        for ahead, now in itertools.product("01x", repeat=2):
            self.assertEqual(self.woken("rise", ahead, now), int((ahead, now) == ("0", "1")))
            self.assertEqual(self.woken("fall", ahead, now), int((ahead, now) == ("1", "0")))

    def test_over_unknown_there_is_none(self):
        self.assertEqual(self.woken("rise", *"0x1x0x1"), 0)
        self.assertEqual(self.woken("fall", *"1x0x1x0"), 0)
        self.assertEqual(self.woken("rise", *"0101x101"), 3)
        self.assertEqual(self.woken("fall", *"0101x101"), 2)

    def test_over_z_there_is_none(self):
        rows = inputs(a=1, c=1) + [("bus", "b", 1, ((A, C), (ZERO, ZERO)))] + kept(q="0")
        run = run_of(rows, ("blk", "rise", "b", (("now", "q", ("not", Q)),)))
        for changes, bus, told in (({"a": "1", "c": "0"}, "0", "0"), ({"a": "0"}, "z", "0"),
                                   ({"a": "1", "c": "1"}, "1", "0"),
                                   ({"c": "0"}, "0", "0"), ({"c": "1"}, "1", "1")):
            run.moment(changes)
            self.assertEqual((run.value("b"), run.value("q")), (bus, told))

    def test_triggers_of_each_sort(self):
        for row in (("wire", "t", 1, ("not", A)), ("filter", "t", 1, ("not", A)),
                    ("bus", "t", 1, ((ONE, ("not", A)), (ZERO, A)))):
            run = run_of(inputs(a=1) + [row] + kept(q="0"), ("blk", "rise", "t", (("later", "q", ("not", Q)),)))
            told = []
            for value in "10101":
                run.moment({"a": value})
                told.append(run.value("q"))
            self.assertEqual(told, list("01100"))


class Moments(unittest.TestCase):
    def test_a_counter(self):
        run = counter()
        told = []
        for value in "01010101":
            told.append((run.moment({"clk": value}), run.value("q")))
        self.assertEqual(told, [(0, "0000"), (1, "0001"), (0, "0001"), (1, "0010"), (0, "0010"), (1, "0011"),
                                (0, "0011"), (1, "0100")])
        self.assertEqual(run.moments(), 8)

    def test_without_changes_and_with_none(self):
        run = counter()
        run.moment({"clk": "0"})
        run.moment({"clk": "1"})
        before = run.all_values()
        for asked in (lambda: run.moment(), lambda: run.moment(None), lambda: run.moment({}),
                      lambda: run.moment(changes=None)):
            self.assertEqual(asked(), 0)
            self.assertEqual(run.all_values(), before)
        self.assertEqual(run.moments(), 6)

    def test_changes_stay_put_in(self):
        run = run_of(inputs(a=2, c=1) + [("wire", "w", 3, ("join", A, C))])
        run.moment({"a": "01"})
        self.assertEqual(run.all_values(), {"a": "01", "c": "x", "w": "01x"})
        run.moment({"c": "1"})
        self.assertEqual(run.all_values(), {"a": "01", "c": "1", "w": "011"})
        run.moment({"a": "1x", "c": "0"})
        self.assertEqual(run.all_values(), {"a": "1x", "c": "0", "w": "1x0"})
        run.moment({"a": "xx", "c": "x"})
        self.assertEqual(run.all_values(), {"a": "xx", "c": "x", "w": "xxx"})

    def test_changes_are_put_in_all_at_once(self):
        run = run_of(inputs(a=1, c=1) + [("wire", "w", 1, ("xor", A, C))] + kept(q="0"),
                     ("blk", "rise", "w", (("now", "q", ONE),)))
        run.moment({"a": "0", "c": "0"})
        run.moment({"a": "1", "c": "1"})
        self.assertEqual(run.value("q"), "0")
        run.moment({"c": "0"})
        self.assertEqual(run.value("q"), "1")

    def test_bodies_see_the_values_settled_with_the_changes(self):
        run = run_of([CLOCK] + inputs(a=2) + [("wire", "w", 2, ("not", A))] + kept(q="00"),
                     ("blk", "rise", "clk", (("later", "q", ("of", "w")),)))
        run.moment({"clk": "0", "a": "00"})
        run.moment({"clk": "1", "a": "01"})
        self.assertEqual(run.value("q"), "10")

    def test_all_woken_blocks_go_by_the_same_values(self):
        for word in ("now", "later"):
            run = run_of(
                [CLOCK] + kept(k="0", q="1"), ("one", "rise", "clk", ((word, "k", Q),)),
                ("two", "rise", "clk", ((word, "q", K),)),
            )
            run.moment({"clk": "0"})
            for value, other in (("1", "0"), ("0", "1"), ("1", "0")):
                self.assertEqual(run.moment({"clk": "1"}), int(word == "later"))
                self.assertEqual((run.value("k"), run.value("q")), (value, other))
                run.moment({"clk": "0"})

    def test_of_two_that_set_one_signal_the_one_behind_counts(self):
        one, two = ("one", "rise", "clk", (("later", "q", ONE),)), ("two", "rise", "clk", (("later", "q", ZERO),))
        for blocks, expected in (((one, two), "0"), ((two, one), "1")):
            run = run_of([CLOCK] + kept(q="x"), *blocks)
            run.moment({"clk": "0"})
            run.moment({"clk": "1"})
            self.assertEqual(run.value("q"), expected)

    def test_what_the_one_behind_does_not_come_to_it_leaves(self):
        one = ("one", "rise", "clk", (("later", "q", ONE),))
        two = ("two", "rise", "clk", (("if", A, (("later", "q", ZERO),), ()),))
        for value, expected in (("0", "1"), ("1", "0"), ("x", "0")):
            run = run_of([CLOCK] + inputs(a=1) + kept(q="0"), one, two)
            run.moment({"clk": "0", "a": value})
            run.moment({"clk": "1"})
            self.assertEqual(run.value("q"), expected)

    def test_what_a_body_does_not_come_to_stays(self):
        run = run_of([CLOCK] + inputs(a=1) + kept(q="1"), ("blk", "rise", "clk",
                                                           (("if", A, (("later", "q", ZERO),), ()),)))
        run.moment({"clk": "0", "a": "0"})
        self.assertEqual(run.moment({"clk": "1"}), 0)
        self.assertEqual(run.value("q"), "1")
        run.moment({"clk": "0", "a": "x"})
        self.assertEqual(run.moment({"clk": "1"}), 1)
        self.assertEqual(run.value("q"), "x")

    def test_a_block_that_is_woken_again_in_a_later_round(self):
        run = swinging("later")
        run.moment({"a": "0"})
        with self.assertRaises(Unending):
            run.moment({"a": "1"}, deltas=5)


class Rounds(unittest.TestCase):
    def risen(self, word, many, limit):
        signals, blocks = chain(many, word)
        run = run_of(signals, *blocks)
        run.moment({"k0": "0"})
        return run, lambda: run.moment({"k0": "1"}, deltas=limit)

    def test_deltas_are_rounds_in_which_a_later_signal_changes(self):
        for many in range(1, 6):
            run, rise = self.risen("later", many, 40)
            self.assertEqual(rise(), many)
            self.assertEqual(run.value(f"k{many}"), "1")
            run, rise = self.risen("now", many, 40)
            self.assertEqual(rise(), 0)
            self.assertEqual(run.value(f"k{many}"), "1")

    def test_a_later_signal_that_does_not_change_makes_no_delta(self):
        run = run_of([CLOCK] + kept(q="0", k="0"), ("blk", "rise", "clk",
                                                    (("later", "q", Q), ("now", "k", ("not", K)))))
        run.moment({"clk": "0"})
        self.assertEqual(run.moment({"clk": "1"}, deltas=0), 0)
        self.assertEqual(run.value("k"), "1")

    def test_several_later_signals_in_one_round_make_one_delta(self):
        body = (("later", "q", ("not", Q)), ("later", "k", ("not", K)))
        run = run_of([CLOCK] + kept(q="0", k="0"), ("one", "rise", "clk", body[:1]), ("two", "rise", "clk", body[1:]))
        run.moment({"clk": "0"})
        self.assertEqual(run.moment({"clk": "1"}, deltas=1), 1)

    def test_rounds_one_after_another_each_by_the_values_settled_then(self):
        signals = inputs(a=1) + kept(k="0", q="0", m="00") + [("wire", "w", 2, ("join", K, Q))]
        run = run_of(
            signals, ("one", "rise", "a", (("later", "k", ONE),)), ("two", "rise", "k", (("now", "q", ONE),)),
            ("three", "rise", "q", (("later", "m", ("of", "w")),)),
        )
        run.moment({"a": "0"})
        self.assertEqual(run.moment({"a": "1"}), 2)
        self.assertEqual(run.all_values(), {"a": "1", "k": "1", "q": "1", "m": "11", "w": "11"})

    def test_the_trigger_is_held_against_one_round_ahead(self):
        """The trigger rises in the first round and stays: the block is woken once."""
        signals = inputs(a=1) + kept(k="0", q="00", m="0", n="0")
        run = run_of(
            signals, ("one", "rise", "a", (("now", "k", ONE),)),
            ("two", "rise", "k", (("now", "q", ("plus", Q, ("is", "01"))), ("now", "m", ONE))),
            ("three", "rise", "m", (("now", "n", ONE),)), ("four", "fall", "n", (("now", "q", ("is", "11")),)),
        )
        run.moment({"a": "0"})
        self.assertEqual(run.moment({"a": "1"}), 0)
        self.assertEqual(run.all_values(), {"a": "1", "k": "1", "q": "01", "m": "1", "n": "1"})

    def test_limit_of_deltas(self):
        for many in range(1, 6):
            for limit in range(0, 8):
                run, rise = self.risen("later", many, limit)
                before = state(run)
                if many <= limit:
                    self.assertEqual(rise(), many)
                    self.assertEqual(run.moments(), 2)
                else:
                    with self.assertRaises(Unending) as caught:
                        rise()
                    self.assertEqual(caught.exception.deltas, limit)
                    self.assertEqual(state(run), before)

    def test_limit_of_rounds(self):
        for many in range(1, 6):
            for limit in range(0, 8):
                run, rise = self.risen("now", many, limit)
                before = state(run)
                if many <= limit + 1:
                    self.assertEqual(rise(), 0)
                    self.assertEqual(run.value(f"k{many}"), "1")
                else:
                    with self.assertRaises(Unending) as caught:
                        rise()
                    self.assertEqual(caught.exception.deltas, 0)
                    self.assertEqual(state(run), before)

    def test_rounds_and_deltas_mixed(self):
        """Two rounds of now, then one of later: one delta, three rounds."""
        signals = inputs(k0=1) + kept(k1="0", k2="0", k3="0")
        blocks = [("b0", "rise", "k0", (("now", "k1", ONE),)), ("b1", "rise", "k1", (("now", "k2", ONE),)),
                  ("b2", "rise", "k2", (("later", "k3", ONE),))]
        for order in itertools.permutations(blocks):
            for limit, expected in ((0, None), (1, None), (2, 1), (3, 1)):
                run = run_of(signals, *order)
                run.moment({"k0": "0"})
                if expected is None:
                    with self.assertRaises(Unending) as caught:
                        run.moment({"k0": "1"}, deltas=limit)
                    self.assertEqual(caught.exception.deltas, 0)
                else:
                    self.assertEqual(run.moment({"k0": "1"}, deltas=limit), expected)

    def test_the_field_counts_what_there_was(self):
        """One round of later, then rounds of now till the limit of rounds."""
        signals = inputs(k0=1) + kept(**{f"k{at}": "0" for at in range(1, 6)})
        blocks = [("b0", "rise", "k0", (("later", "k1", ONE),))]
        blocks += [(f"b{at}", "rise", f"k{at}", (("now", f"k{at + 1}", ONE),)) for at in range(1, 5)]
        for limit in (1, 2, 3):
            run = run_of(signals, *blocks)
            run.moment({"k0": "0"})
            with self.assertRaises(Unending) as caught:
                run.moment({"k0": "1"}, deltas=limit)
            self.assertEqual(caught.exception.deltas, 1)
        run = run_of(signals, *blocks)
        run.moment({"k0": "0"})
        self.assertEqual(run.moment({"k0": "1"}, deltas=4), 1)

    def test_for_ever(self):
        for word in ("now", "later"):
            for limit in (0, 1, 2, 7, 40, 300):
                run = swinging(word)
                run.moment({"a": "0"})
                before = state(run)
                with self.assertRaises(Unending) as caught:
                    run.moment({"a": "1"}, deltas=limit)
                self.assertEqual(caught.exception.deltas, limit if word == "later" else 0)
                self.assertEqual(state(run), before)

    def long_run(self, many, word="later"):
        """So many rounds behind one rising edge: a counter that turns its own trigger till it is full."""
        turn = (("if", ("less", ("of", "n"), ("is", format(many - 1, "08b"))), ((word, "t", ("not", ("of", "t"))),),
                 ()),)
        body = turn + ((word, "n", ("plus", ("of", "n"), ("is", "00000001"))),)
        signals = inputs(a=1) + kept(t="0", n="00000000")
        return run_of(signals, ("b0", "rise", "a", body), ("b1", "rise", "t", body), ("b2", "fall", "t", body))

    def test_the_limit_that_is_left_out_is_forty(self):
        for many in (39, 40, 41, 42):
            for word in ("later", "now"):
                run = self.long_run(many, word)
                run.moment({"a": "0"})
                if many <= (40 if word == "later" else 41):
                    self.assertEqual(run.moment({"a": "1"}), many if word == "later" else 0)
                    self.assertEqual(int(run.value("n"), 2), many)
                else:
                    with self.assertRaises(Unending) as caught:
                        run.moment({"a": "1"})
                    self.assertEqual(caught.exception.deltas, 40 if word == "later" else 0)

    def test_a_round_in_which_nothing_changes_counts_as_one_that_wakes(self):
        run = run_of([CLOCK], ("blk", "rise", "clk", ()))
        run.moment({"clk": "0"}, deltas=0)
        self.assertEqual(run.moment({"clk": "1"}, deltas=0), 0)


class Refusals(unittest.TestCase):
    def make(self):
        run = run_of([CLOCK] + inputs(d=2) + kept(q="00"), ("up", "rise", "clk", (("later", "q", ("of", "d")),)))
        run.moment({"clk": "0", "d": "01"})
        return run

    def refused(self, kind, changes, who=None):
        run = self.make()
        before = state(run)
        with self.assertRaises(kind) as caught:
            run.moment(changes)
        if who is not None:
            self.assertEqual(caught.exception.who, who)
        self.assertEqual(state(run), before)
        fresh = self.make()
        self.assertEqual(run.moment({"clk": "1"}), fresh.moment({"clk": "1"}))
        self.assertEqual(state(run), state(fresh))

    def test_no_input(self):
        for who in ("q", "up", "nobody", "", "CLK", "clk "):
            self.refused(NoName, {who: "1"}, who)
            self.refused(NoName, {who: None}, who)
            self.refused(NoName, {"clk": "1", who: "11"}, who)
            self.refused(NoName, {who: "11", "clk": "1"}, who)

    def test_wires_buses_and_filters_are_no_inputs(self):
        run = NetRun(Design(SIGNALS, BLOCKS))
        for sort, name, width, _ in SIGNALS:
            if sort == "input":
                run.moment({name: "0" * width})
            else:
                with self.assertRaises(NoName) as caught:
                    run.moment({name: "0" * width})
                self.assertEqual(caught.exception.who, name)

    def test_the_first_in_the_dicts_order(self):
        for names in itertools.permutations(["clk", "one", "two", "q"]):
            changes = {name: "1" for name in names}
            self.refused(NoName, changes, [name for name in names if name != "clk"][0])

    def test_no_value(self):
        for value in [thing for thing in NO_TEXTS] + ["", "1", "111", "z1", "zz", "1z", "2", "ab", " 1", "1 ", "1\n",
                                                      "X0", "01x"]:
            self.refused(NoValue, {"d": value})
            self.refused(NoValue, {"clk": "1", "d": value})
            self.refused(NoValue, {"d": value, "clk": "1"})
        for value in ("z", "00", "", None, 1):
            self.refused(NoValue, {"clk": value})

    def test_names_go_ahead_of_values(self):
        self.refused(NoName, {"d": "z", "nobody": "1"}, "nobody")
        self.refused(NoName, {"nobody": "1", "d": None}, "nobody")
        self.refused(NoName, {"d": None, "clk": "2", "q": "00"}, "q")

    def test_good_values(self):
        for value in ("00", "01", "x1", "xx"):
            run = self.make()
            self.assertEqual(run.moment({"d": value}), 0)
            self.assertEqual(run.value("d"), value)

    def test_a_good_moment_behind_an_unending_one_is_as_if_that_had_not_been_asked_for(self):
        for word in ("now", "later"):
            for changes in ({"a": "0"}, None, {"a": "x"}, {}):
                run, fresh = swinging(word), swinging(word)
                run.moment({"a": "0"})
                fresh.moment({"a": "0"})
                with self.assertRaises(Unending):
                    run.moment({"a": "1"})
                self.assertEqual(run.moment(changes), fresh.moment(changes))
                self.assertEqual(state(run), state(fresh))

    def test_a_moment_that_is_refused_by_a_low_limit_can_be_asked_for_again(self):
        signals, blocks = chain(3)
        run = run_of(signals, *blocks)
        run.moment({"k0": "0"})
        with self.assertRaises(Unending):
            run.moment({"k0": "1"}, deltas=2)
        self.assertEqual(run.moment({"k0": "1"}, deltas=3), 3)
        self.assertEqual(state(run), ({f"k{at}": "1" for at in range(4)}, 2, True))

    def test_an_unending_moment_leaves_the_trigger_as_it_was(self):
        run = swinging("later")
        run.moment({"a": "0"})
        for _ in range(3):
            with self.assertRaises(Unending):
                run.moment({"a": "1"}, deltas=3)
            self.assertEqual((run.value("a"), run.value("k"), run.moments()), ("0", "0", 1))

    def test_refusals_in_clear_and_unclear_moments(self):
        run = swinging("later")
        run.moment({"a": "0"})
        with self.assertRaises(Unending):
            run.moment({"a": "1"})
        with self.assertRaises(NoValue):
            run.moment({"a": "z"})
        self.assertEqual((run.is_clear(), run.moments()), (True, 1))

    def test_value_of_no_signal(self):
        run = NetRun(Design(SIGNALS, BLOCKS))
        for who in ("", "nobody", "up", "CLK"):
            with self.assertRaises(NoName) as caught:
                run.value(who)
            self.assertEqual(caught.exception.who, who)


class Clear(unittest.TestCase):
    def clear_after(self, run, *changes):
        told = []
        for change in changes:
            run.moment(change)
            self.assertIs(type(run.is_clear()), bool)
            told.append(run.is_clear())
        return told

    def test_without_blocks_all_is_clear(self):
        self.assertEqual(self.clear_after(run_of(inputs(a=1)), {}, {"a": "x"}), [True, True])

    def test_the_trigger_must_be_told(self):
        run = run_of(inputs(a=1, c=1) + kept(q="x"), ("blk", "rise", "a", ()))
        self.assertEqual(run.is_clear(), True)
        self.assertEqual(self.clear_after(run, {"a": "0"}, {"a": "1"}, {"c": "x"}, {"a": "x"}, {"a": "0"}, {}),
                         [True] * 3 + [False] * 3)
        self.assertEqual(self.clear_after(run_of(inputs(a=1), ("blk", "rise", "a", ())), {}), [False])
        self.assertEqual(self.clear_after(run_of(inputs(a=1), ("blk", "rise", "a", ())), {"a": "0"}), [True])

    def test_each_block_counts(self):
        blocks = [("one", "rise", "a", ()), ("two", "fall", "c", ())]
        for order in itertools.permutations(blocks):
            self.assertEqual(self.clear_after(run_of(inputs(a=1, c=1), *order), {"a": "1", "c": "0"}, {"a": "0"}),
                             [True, True])
            for wrong in ({"a": "1"}, {"c": "1"}, {"a": "x", "c": "1"}, {"a": "1", "c": "x"}):
                self.assertEqual(self.clear_after(run_of(inputs(a=1, c=1), *order), wrong), [False])

    def test_z_is_not_told(self):
        rows = inputs(a=1) + [("bus", "b", 1, ((A, ONE), (ZERO, ONE)))]
        self.assertEqual(self.clear_after(run_of(rows, ("blk", "rise", "b", ())), {"a": "1"}, {"a": "0"}),
                         [True, False])

    def test_each_time_that_it_is_settled(self):
        """The trigger k is unknown in the midst of the moment, and told again at its end."""
        signals = inputs(a=1) + kept(k="0", t="0")
        blocks = [("b0", "rise", "a", (("now", "k", ("is", "x")), ("now", "t", ONE))),
                  ("b1", "rise", "t", (("now", "k", ZERO),)),
                  ("b2", "rise", "k", ())]
        run = run_of(signals, *blocks)
        self.assertEqual(self.clear_after(run, {"a": "0"}, {"a": "1"}), [True, False])
        self.assertEqual(run.value("k"), "0")

    def test_unknown_at_the_end_alone(self):
        signals = inputs(a=1) + kept(k="0")
        run = run_of(signals, ("b0", "rise", "a", (("now", "k", ("is", "x")),)), ("b1", "rise", "k", ()))
        self.assertEqual(self.clear_after(run, {"a": "0"}, {"a": "1"}), [True, False])

    def test_unknown_at_the_beginning_alone(self):
        signals = inputs(a=1, c=1) + kept(k="0")
        blocks = [("b0", "rise", "a", (("now", "k", ONE),)), ("b1", "rise", "w", ())]
        run = run_of(signals + [("wire", "w", 1, ("or", K, C))], *blocks)
        self.assertEqual(self.clear_after(run, {"a": "0", "c": "0"}, {"a": "1", "c": "x"}), [True, False])
        self.assertEqual(run.value("w"), "1")

    def test_ahead_of_the_moment_has_no_bearing(self):
        run = run_of(inputs(a=1), ("blk", "rise", "a", ()))
        self.assertEqual(run.value("a"), "x")
        self.assertEqual(self.clear_after(run, {"a": "1"}), [True])

    def test_it_stays_unclear(self):
        run = run_of(inputs(a=1), ("blk", "rise", "a", ()))
        run.moment()
        for _ in range(3):
            run.moment({"a": "0"})
            self.assertIs(run.is_clear(), False)


class Drawn(unittest.TestCase):
    def test_against_the_words(self):
        source = source_of("net runs")
        seen = {"refused": 0, "deltas": 0, "unclear": 0}
        for _ in range(250):
            signals = drawn_signals(source, wires=source.randrange(0, 5), filters=source.randrange(0, 3))
            blocks = drawn_blocks(source, signals, source.randrange(1, 5))
            run, expected = NetRun(Design(signals, blocks)), Run(signals, blocks)
            over = 0
            for at in range(8):
                changes = drawn_changes(source, signals, source.choice(["01", "01x"]), at)
                limit = source.choice([0, 1, 2, 5, 40])
                try:
                    deltas = expected.moment(changes, limit)
                except Refused as refused:
                    seen["refused"] += 1
                    with self.assertRaises(Unending) as caught:
                        run.moment(changes, deltas=limit)
                    self.assertEqual(caught.exception.deltas, refused.deltas)
                else:
                    over += 1
                    seen["deltas"] += deltas
                    self.assertEqual(run.moment(changes, deltas=limit), deltas)
                self.assertEqual(state(run), (expected.now, over, expected.is_clear))
                self.assertEqual(list(run.all_values()), [row[1] for row in signals])
                seen["unclear"] += not run.is_clear()
        self.assertGreater(min(seen.values()), 30, seen)

    def filled_changes(self, source, changes):
        return {name: source.choice(filled(value)) for name, value in changes.items()}

    def test_a_clear_run_covers_each_run_with_its_unknown_bits_filled(self):
        source = source_of("clear runs")
        held = 0
        for _ in range(150):
            signals = drawn_signals(source, wires=3, filters=1)
            blocks = drawn_blocks(source, signals, 3, apart=True)
            setters = [{part[1] for part in statements_within(block[3]) if part[0] != "if"} for block in blocks]
            self.assertEqual(sum([len(names) for names in setters]), len(set().union(*setters)))
            design = Design(signals, blocks)
            run, fillings = NetRun(design), [NetRun(design) for _ in range(4)]
            for at in range(8):
                changes = drawn_changes(source, signals, "01x", at)
                try:
                    run.moment(changes)
                    for other in fillings:
                        other.moment(self.filled_changes(source, changes))
                except Unending:
                    break
                if not run.is_clear():
                    break
                for other in fillings:
                    for name, value in run.all_values().items():
                        for sign, there in zip(value, other.value(name)):
                            self.assertIn(sign, ("x", "z", there), (signals, blocks, name))
                            held += sign in "01" and "x" in "".join(run.all_values().values())
        self.assertGreater(held, 500)


class HandedInAndTold(unittest.TestCase):
    def test_changes_are_not_changed(self):
        run = counter()
        changes = {"clk": "0"}
        run.moment(changes)
        self.assertEqual(changes, {"clk": "0"})
        with self.assertRaises(NoName):
            run.moment({"clk": "1", "nobody": "1"})

    def test_changes_that_are_changed_later(self):
        run = run_of(inputs(a=1))
        changes = {"a": "0"}
        run.moment(changes)
        changes["a"] = "1"
        changes["b"] = "1"
        self.assertEqual(run.all_values(), {"a": "0"})
        run.moment()
        self.assertEqual(run.all_values(), {"a": "0"})

    def test_told_dicts_are_the_askers_own(self):
        run = counter()
        run.moment({"clk": "0"})
        told = run.all_values()
        told["q"] = "1111"
        told["more"] = "1"
        del told["clk"]
        self.assertEqual(run.all_values(), {"clk": "0", "q": "0000"})
        self.assertEqual(run.value("q"), "0000")
        self.assertEqual(run.moment({"clk": "1"}), 1)
        self.assertEqual(run.all_values(), {"clk": "1", "q": "0001"})
        self.assertIsNot(run.all_values(), run.all_values())

    def test_a_told_dict_is_not_changed_by_later_moments(self):
        run = counter()
        told = run.all_values()
        run.moment({"clk": "0"})
        self.assertEqual(told, {"clk": "x", "q": "0000"})

    def test_of_two_runs_neither_knows_of_the_other(self):
        design = Design(*[[CLOCK] + kept(q="0"), [("up", "rise", "clk", (("later", "q", ("not", Q)),))]])
        one, other = NetRun(design), NetRun(design)
        one.moment({"clk": "0"})
        self.assertEqual(state(other), ({"clk": "x", "q": "0"}, 0, True))
        one.moment({"clk": "1"})
        other.moment()
        self.assertEqual(state(one), ({"clk": "1", "q": "1"}, 2, True))
        self.assertEqual(state(other), ({"clk": "x", "q": "0"}, 1, False))
        self.assertEqual(NetRun(design).all_values(), {"clk": "x", "q": "0"})

    def test_asked_again_the_same_is_told(self):
        run = NetRun(Design(SIGNALS, BLOCKS))
        run.moment({"clk": "0", "d": "0001"})
        first = (state(run), [run.value(name) for name in run.all_values()])
        for _ in range(2):
            self.assertEqual((state(run), [run.value(name) for name in run.all_values()]), first)
            with self.assertRaises(NoName):
                run.value("nobody")

    def test_the_lists_of_the_design_changed_later(self):
        signals, blocks = [CLOCK] + kept(q="0"), [("up", "rise", "clk", (("later", "q", ("not", Q)),))]
        run = NetRun(Design(signals, blocks))
        signals.clear()
        blocks.clear()
        run.moment({"clk": "0"})
        self.assertEqual(run.moment({"clk": "1"}), 1)
        self.assertEqual(run.all_values(), {"clk": "1", "q": "1"})

    def test_limit_by_its_name_alone(self):
        with self.assertRaises(TypeError):
            counter().moment({"clk": "0"}, 3)

    def test_in_order(self):
        for order in itertools.islice(itertools.permutations(SIGNALS), 0, None, 701):
            run = NetRun(Design(list(order), BLOCKS))
            self.assertEqual(list(run.all_values()), [row[1] for row in order])
            run.moment({"d": "0101", "clk": "0"})
            self.assertEqual(list(run.all_values()), [row[1] for row in order])
            run.moment({"clk": "1"})
            self.assertEqual(list(run.all_values()), [row[1] for row in order])
            self.assertEqual(list(run.copied().all_values()), [row[1] for row in order])

    def test_all_that_there_may_be(self):
        run = NetRun(Design(full_signals(), full_blocks()))
        expected = Run(full_signals(), full_blocks())
        for value in "0101":
            self.assertEqual(run.moment({"i0": value}), expected.moment({"i0": value}, 40))
            self.assertEqual(run.all_values(), expected.now)


class Copied(unittest.TestCase):
    def test_it_stands_as_the_other(self):
        run = counter()
        for value in "x0101":
            run.moment({"clk": value})
            self.assertEqual(state(run.copied()), state(run))
        self.assertIs(type(run.copied()), NetRun)
        self.assertIsNot(run.copied(), run)
        self.assertIs(run.copied().is_clear(), False)

    def test_each_goes_on_by_itself(self):
        run = counter()
        run.moment({"clk": "0"})
        other = run.copied()
        self.assertEqual(other.moment({"clk": "1"}), 1)
        self.assertEqual(state(run), ({"clk": "0", "q": "0000"}, 1, True))
        self.assertEqual(state(other), ({"clk": "1", "q": "0001"}, 2, True))
        self.assertEqual(run.moment({"clk": "x"}), 0)
        self.assertEqual(state(other), ({"clk": "1", "q": "0001"}, 2, True))
        self.assertEqual(state(run), ({"clk": "x", "q": "0000"}, 2, False))
        other.all_values()["q"] = "0"
        self.assertEqual(other.value("q"), "0001")

    def test_of_a_fresh_run_and_of_a_copy(self):
        run = NetRun(Design(SIGNALS, BLOCKS))
        self.assertEqual(state(run.copied().copied()), state(run))
        run.moment({"clk": "0", "d": "0000"})
        twin = run.copied().copied()
        for changes in ({"clk": "1"}, {"d": "0011"}, {"clk": "0"}):
            self.assertEqual(run.moment(changes), twin.moment(changes))
            self.assertEqual(state(run), state(twin))

    def test_behind_a_refusal(self):
        run = swinging("later")
        run.moment({"a": "0"})
        with self.assertRaises(Unending):
            run.moment({"a": "1"})
        self.assertEqual(state(run.copied()), state(run))

    def test_it_goes_on_as_the_other_would(self):
        source = source_of("copies")
        for _ in range(30):
            signals = drawn_signals(source)
            run = NetRun(Design(signals, drawn_blocks(source, signals, 3)))
            for at in range(4):
                twin = run.copied()
                changes = drawn_changes(source, signals, "01x", at)
                told = []
                for each in (run, twin):
                    try:
                        told.append(each.moment(changes, deltas=4))
                    except Unending as unending:
                        told.append(("unending", unending.deltas))
                self.assertEqual(told[0], told[1])
                self.assertEqual(state(run), state(twin))


if __name__ == "__main__":
    unittest.main()
