"""Point [20], what [4] says of a moment that is refused in its midst, and the times of [24] as story tells them."""

import inspect
import itertools
import unittest

from deltawires.configurations import begun, doable, done
from deltawires.designs import Design
from deltawires.errors import Busy, NoName, NoValue, Unending
from deltawires.eventruns import THINGS, EventRun
from deltawires.netruns import NetRun
from designsamples import A, BLOCKS, C, K, ONE, Q, SIGNALS, ZERO, full_blocks, full_signals
from eventdrawing import drawn_any, drawn_order, drawn_put
from eventoracles import Events
from oracles import Refused
from samples import NO_TEXTS, source_of

CLOCK = ("input", "clk", 1, None)
RULES = ("settled", "free")


def inputs(**widths):
    return [("input", name, width, None) for name, width in widths.items()]


def kept(**firsts):
    return [("kept", name, len(first), first) for name, first in firsts.items()]


def run_of(signals, *blocks, rule="settled"):
    return EventRun(Design(signals, list(blocks)), rule=rule)


def counter(rule="settled"):
    step = ("plus", Q, ("is", "0001"))
    return run_of([CLOCK] + kept(q="0000"), ("up", "rise", "clk", (("later", "q", step),)), rule=rule)


def swinging(word, rule="settled"):
    """Two blocks that turn one signal for ever, once it has risen."""
    setting = (word, "k", ("not", K))
    run = run_of(
        inputs(a=1) + kept(k="0"), ("go1", "rise", "a", (setting,)), ("up", "rise", "k", (setting,)),
        ("down", "fall", "k", (setting,)), rule=rule,
    )
    run.moment({"a": "0"})
    return run


def racing(rule="settled"):
    """Four blocks that one edge wakes; the last one that is done sets q."""
    blocks = [(f"b{at}", "rise", "clk", (("now", "q", ("is", format(at, "02b"))),)) for at in range(4)]
    run = run_of([CLOCK] + kept(q="00"), *blocks, rule=rule)
    run.moment({"clk": "0"})
    return run


def chain(many, word):
    """A rising edge that runs through so many kept signals, one each time, risen up to its beginning."""
    run = run_of(
        inputs(k0=1) + kept(**{f"k{at}": "0" for at in range(1, many + 1)}),
        *[(f"b{at}", "rise", f"k{at}", ((word, f"k{at + 1}", ONE),)) for at in range(many)],
    )
    run.moment({"k0": "0"})
    return run


def state(run):
    return (run.all_values(), run.moments(), run.is_busy(), run.done_last(), run.story(), run.book())


class Oops(Exception):
    """What a watch raises in these tests."""


class First(unittest.TestCase):
    def test_it_begins_as_a_net_run(self):
        for rule in RULES:
            for signals, blocks in ((SIGNALS, BLOCKS), (full_signals(), full_blocks()), ([], [])):
                design = Design(signals, blocks)
                run = EventRun(design, rule=rule)
                values = NetRun(design).all_values()
                self.assertEqual(
                    state(run), (values, 0, False, [], [(0, name, value) for name, value in values.items()], []),
                )
                self.assertEqual(list(run.all_values()), design.names())

    def test_limits(self):
        self.assertEqual(THINGS, 5000)
        self.assertIs(type(THINGS), int)
        parameters = inspect.signature(EventRun.moment).parameters
        told = {name: parameters[name].default for name in ("changes", "order", "deltas", "things", "watch")}
        self.assertEqual(told, {"changes": None, "order": (), "deltas": 40, "things": 5000, "watch": None})

    def test_nothing(self):
        run = run_of([])
        self.assertEqual(run.moment(), 0)
        self.assertEqual(state(run), ({}, 1, False, [], [], [(0, "begun"), (0, "over")]))

    def test_the_rule_that_is_left_out_is_settled(self):
        signals = inputs(a=1) + [("wire", "w", 1, A)] + kept(q="x")
        blocks = [("blk", "rise", "a", (("now", "q", ("of", "w")),))]
        told = []
        for run in (EventRun(Design(signals, blocks)), EventRun(Design(signals, blocks), rule="settled"),
                    EventRun(Design(signals, blocks), rule="free")):
            run.moment({"a": "0"})
            run.moment({"a": "1"}, order=[1])
            told.append((run.value("q"), run.done_last()))
        self.assertEqual(told, [("1", ["w", "blk"]), ("1", ["w", "blk"]), ("0", ["blk", "w"])])


class Moments(unittest.TestCase):
    def test_a_counter(self):
        for rule in RULES:
            run = counter(rule)
            told = [(run.moment({"clk": value}), run.value("q"), run.done_last()) for value in "0101"]
            self.assertEqual(told, [(0, "0000", []), (1, "0001", ["up", "later"]), (0, "0001", []),
                                    (1, "0010", ["up", "later"])])
            self.assertEqual(run.moments(), 4)

    def test_without_changes(self):
        run = counter()
        for asked in (lambda: run.moment(), lambda: run.moment(None), lambda: run.moment({}),
                      lambda: run.moment(changes=None)):
            self.assertEqual(asked(), 0)
            self.assertEqual(run.all_values(), {"clk": "x", "q": "0000"})
        self.assertEqual((run.moments(), run.done_last(), len(run.book())), (4, [], 8))

    def test_a_delta_is_a_later_by_which_some_signal_changes(self):
        body = (("later", "q", Q), ("later", "k", ("or", K, A)))
        run = run_of(inputs(a=1) + [CLOCK] + kept(q="0", k="0"), ("blk", "rise", "clk", body))
        told = []
        for changes in ({"a": "0", "clk": "0"}, {"clk": "1"}, {"clk": "0"}, {"clk": "1", "a": "1"}, {"clk": "0"},
                        {"clk": "1"}):
            told.append((run.moment(changes, deltas=1), run.done_last()))
        both = ["blk", "later"]
        self.assertEqual(told, [(0, []), (0, both), (0, []), (1, both), (0, []), (0, both)])

    def test_a_later_without_a_change_is_kept_by_a_limit_of_none(self):
        run = run_of([CLOCK] + kept(q="0"), ("blk", "rise", "clk", (("later", "q", Q),)))
        run.moment({"clk": "0"}, deltas=0)
        self.assertEqual(run.moment({"clk": "1"}, deltas=0), 0)
        self.assertEqual(run.done_last(), ["blk", "later"])

    def test_glitches_are_seen_by_events(self):
        """A wire that is told twice: the block that it wakes for a moment is done, though it ends as it was."""
        signals = inputs(a=1) + [("wire", "n", 1, ("not", A)), ("wire", "w", 1, ("and", A, ("of", "n")))] + kept(q="0")
        blocks = [("blk", "rise", "w", (("now", "q", ONE),))]
        for order, things, told in (([0], ["n", "w"], "0"), ([1], ["w", "n", "w", "blk"], "1")):
            run = run_of(signals, *blocks)
            run.moment({"a": "0"})
            run.moment({"a": "1"}, order=order)
            self.assertEqual((run.done_last(), run.value("q"), run.value("w")), (things, told, "0"))

    def test_filters_are_done_when_all_is_settled(self):
        signals = inputs(a=1) + [("wire", "n", 1, ("not", A)), ("filter", "f", 1, ("and", A, ("of", "n"))),
                                 ("filter", "g", 1, A)]
        for order in ([0], [1]):
            run = run_of(signals, ("blk", "rise", "f", ()), ("up", "rise", "g", ()))
            run.moment({"a": "0"})
            run.moment({"a": "1"}, order=order)
            self.assertEqual(run.done_last(), ["n", "filters", "up"])


class Orders(unittest.TestCase):
    def done_by(self, order, **more):
        run = racing()
        run.moment({"clk": "1"}, order=order, **more)
        return run.done_last()

    def test_numbers(self):
        for numbers, expected in (
            ((), "0123"), ((0, 0, 0), "0123"), ((3, 2, 1), "3210"), ((1, 1, 1), "1230"), ((2, 0, 1), "2031"),
            ((0,), "0123"), ((3,), "3012"), ((1, 2), "1302"),
        ):
            for order in (list(numbers), tuple(numbers)):
                self.assertEqual(self.done_by(order), [f"b{sign}" for sign in expected])

    def test_numbers_below_none_and_beyond(self):
        for numbers, expected in (
            ((-1, -1, -1), "3210"), ((-4, -3, -2), "0123"), ((-5, -4, -3), "3210"), ((4, 3, 2), "0123"),
            ((7, 5, 3), "3210"), ((10 ** 40 + 1,), "1023"), ((-10 ** 40 - 1,), "3012"),
            ((10 ** 5000 + 2, -10 ** 5000 - 2), "2013"),
        ):
            self.assertEqual(self.done_by(list(numbers)), [f"b{sign}" for sign in expected])

    def test_the_last_one_needs_no_number(self):
        self.assertEqual(self.done_by([3, 2, 1, 5, 7, -9]), ["b3", "b2", "b1", "b0"])

    def test_numbers_are_taken_only_where_several_are_doable(self):
        signals = inputs(a=1) + [("wire", "u", 1, A), ("wire", "v", 1, ("of", "u")), ("wire", "w", 1, ("of", "v"))]
        run = run_of(signals + kept(q="00"), ("one", "rise", "w", (("now", "q", ("is", "01")),)),
                     ("two", "rise", "w", (("now", "q", ("is", "10")),)))
        run.moment({"a": "0"})
        run.moment({"a": "1"}, order=[1, 0, 0])
        self.assertEqual(run.done_last(), ["u", "v", "w", "two", "one"])

    def test_wires_and_buses_ahead_of_blocks_in_the_designs_order(self):
        signals = [("bus", "z", 1, ((A, ONE), (ZERO, ONE))), ("wire", "m", 1, A), ("input", "a", 1, None),
                   ("wire", "b", 1, A)]
        blocks = [("y", "rise", "a", ()), ("c", "rise", "a", ())]
        for number, first in enumerate(["z", "m", "b", "y", "c"]):
            run = run_of(signals, *blocks, rule="free")
            run.moment({"a": "0"})
            run.moment({"a": "1"}, order=[number])
            self.assertEqual(run.done_last(), [first] + [name for name in ("z", "m", "b", "y", "c") if name != first])
        for number, first in enumerate(["z", "m", "b", "z"]):
            run = run_of(signals, *blocks)
            run.moment({"a": "0"})
            run.moment({"a": "1"}, order=[number, 0, 1])
            self.assertEqual(run.done_last(), [first] + [name for name in ("z", "m", "b") if name != first] + ["c", "y"])

    def test_each_moment_has_its_own_order(self):
        run = racing()
        run.moment({"clk": "1"}, order=[3, 2, 1, 3, 3, 3])
        run.moment({"clk": "0"})
        run.moment({"clk": "1"})
        self.assertEqual(run.done_last(), ["b0", "b1", "b2", "b3"])

    def test_an_order_that_is_changed_by_a_watch(self):
        order = [3, 2, 1]

        def watch(thing):
            order.clear()
            order.extend([0, 0, 0, 0])

        self.assertEqual(self.done_by(order, watch=watch), ["b3", "b2", "b1", "b0"])
        self.assertEqual(order, [0, 0, 0, 0])

    def test_an_order_is_not_changed(self):
        order = [3, -2, 1, 7]
        self.done_by(order)
        self.assertEqual(order, [3, -2, 1, 7])

    def test_changes_that_are_changed_by_a_watch(self):
        run = racing()
        changes = {"clk": "1"}

        def watch(thing):
            changes["clk"] = "x"
            changes["nobody"] = "0"

        run.moment(changes, watch=watch)
        self.assertEqual((run.all_values(), run.story()[-1]), ({"clk": "1", "q": "11"}, (6, "q", "11")))
        self.assertEqual(run.moment(), 0)
        self.assertEqual(run.value("clk"), "1")

    def test_changes_are_not_changed(self):
        changes = {"clk": "1"}
        racing().moment(changes)
        self.assertEqual(changes, {"clk": "1"})


class Limits(unittest.TestCase):
    def refused(self, run, many, **more):
        before = state(run)
        number = len(before[-1]) // 2
        with self.assertRaises(Unending) as caught:
            run.moment(**more)
        self.assertEqual(caught.exception.deltas, many)
        self.assertEqual(state(run)[:-1], before[:-1])
        self.assertEqual(run.book(), before[-1] + [(number, "begun"), (number, "refused")])

    def test_deltas_just_kept_and_passed_by_one(self):
        for many in range(1, 6):
            for limit in range(0, 8):
                run = chain(many, "later")
                if many <= limit:
                    self.assertEqual(run.moment({"k0": "1"}, deltas=limit), many)
                    self.assertEqual(run.value(f"k{many}"), "1")
                else:
                    self.refused(run, limit, changes={"k0": "1"}, deltas=limit)

    def test_things_just_kept_and_passed_by_one(self):
        for many in range(1, 6):
            for limit in range(0, 8):
                run = chain(many, "now")
                if many <= limit:
                    self.assertEqual(run.moment({"k0": "1"}, things=limit), 0)
                    self.assertEqual(run.done_last(), [f"b{at}" for at in range(many)])
                else:
                    self.refused(run, 0, changes={"k0": "1"}, things=limit)

    def test_things_are_counted_anew_behind_each_later(self):
        for limit in (0, 1, 2):
            run = chain(5, "later")
            if limit == 0:
                self.refused(run, 0, changes={"k0": "1"}, things=limit)
            else:
                self.assertEqual(run.moment({"k0": "1"}, things=limit), 5)
                self.assertEqual(run.done_last(), ["b0", "later", "b1", "later", "b2", "later", "b3", "later", "b4",
                                                   "later"])

    def test_wires_buses_and_filters_are_things(self):
        signals = inputs(a=1) + [("wire", "w", 1, A), ("bus", "b", 1, ((A, ONE), (ZERO, ONE))), ("filter", "f", 1, A)]
        for limit in range(6):
            run = run_of(signals + kept(q="0"), ("blk", "rise", "f", (("later", "q", ONE),)))
            run.moment({"a": "0"})
            if limit < 4:
                self.refused(run, 0, changes={"a": "1"}, things=limit)
            else:
                self.assertEqual(run.moment({"a": "1"}, things=limit), 1)
                self.assertEqual(run.done_last(), ["w", "b", "filters", "blk", "later"])

    def test_the_field_tells_how_many_there_were(self):
        """Three deltas, then things without an end."""
        signals = inputs(k0=1) + kept(k1="0", k2="0", k3="0", m="0")
        turn = (("now", "m", ("not", ("of", "m"))),)
        blocks = [(f"b{at}", "rise", f"k{at}", (("later", f"k{at + 1}", ONE),)) for at in range(3)]
        blocks += [("last", "rise", "k3", turn), ("up", "rise", "m", turn), ("down", "fall", "m", turn)]
        for deltas, things, expected in ((40, 30, 3), (3, 5, 3), (2, 30, 2), (0, 30, 0), (40, 0, 0)):
            run = run_of(signals, *blocks)
            run.moment({"k0": "0"})
            self.refused(run, expected, changes={"k0": "1"}, deltas=deltas, things=things)

    def test_for_ever(self):
        for rule in RULES:
            for limit in (0, 1, 2, 7, 40, 200):
                self.refused(swinging("later", rule), limit, changes={"a": "1"}, deltas=limit)
            for limit in (0, 1, 2, 7, 40):
                self.refused(swinging("now", rule), 0, changes={"a": "1"}, things=limit)

    def test_the_limits_that_are_left_out(self):
        self.refused(swinging("later"), 40, changes={"a": "1"})
        for word, many in (("later", 40), ("now", 5000)):
            seen = []
            with self.assertRaises(Unending):
                swinging(word).moment({"a": "1"}, watch=seen.append)
            self.assertEqual(len([name for name in seen if (name == "later") == (word == "later")]), many)

    def test_the_thing_too_many_is_not_done(self):
        for deltas, things, expected in ((2, 5000, ["go1", "later", "up", "later", "down"]), (40, 0, [])):
            seen = []
            with self.assertRaises(Unending):
                swinging("later").moment({"a": "1"}, deltas=deltas, things=things, watch=seen.append)
            self.assertEqual(seen, expected)

    def test_a_refused_moment_can_be_asked_for_again(self):
        for word, limit in (("later", "deltas"), ("now", "things")):
            run, fresh = chain(3, word), chain(3, word)
            self.refused(run, 2 if word == "later" else 0, changes={"k0": "1"}, **{limit: 2})
            self.assertEqual(run.moment({"k0": "1"}, **{limit: 3}), fresh.moment({"k0": "1"}))
            self.assertEqual(state(run)[:-1], state(fresh)[:-1])
            self.assertEqual(run.book(), [(0, "begun"), (0, "over"), (1, "begun"), (1, "refused"), (2, "begun"),
                                          (2, "over")])


class Watches(unittest.TestCase):
    def test_each_things_name_behind_its_being_done(self):
        run = racing()
        seen = []
        run.moment({"clk": "1"}, order=[2, 0, 1], watch=lambda thing: seen.append((thing, run.value("q"))))
        self.assertEqual(seen, [("b2", "10"), ("b0", "00"), ("b3", "11"), ("b1", "01")])
        self.assertEqual([name for name, _ in seen], run.done_last())

    def test_none_where_nothing_is_done(self):
        run, seen = racing(), []
        run.moment({"clk": "0"}, watch=seen.append)
        self.assertEqual(seen, [])

    def test_values_as_they_stand(self):
        signals = inputs(a=1) + [("wire", "w", 1, ("not", A)), ("filter", "f", 1, ("of", "w"))] + kept(q="0", k="0")
        run = run_of(signals, ("blk", "fall", "f", (("later", "q", ONE), ("now", "k", ONE))))
        run.moment({"a": "0"})
        seen = []
        run.moment({"a": "1"}, watch=lambda thing: seen.append((thing, "".join(run.all_values().values()))))
        self.assertEqual(seen, [("w", "10100"), ("filters", "10000"), ("blk", "10001"), ("later", "10011")])

    def test_all_else_is_as_ahead(self):
        run = racing()
        run.moment({"clk": "1"}, order=[1])
        run.moment({"clk": "0"})
        run.moment({"clk": "1"}, order=[2])
        run.moment({"clk": "0"})
        before = state(run)
        seen = []

        def watch(thing):
            self.assertIs(run.is_busy(), True)
            self.assertEqual(run.moments(), before[1])
            self.assertEqual(run.done_last(), before[3])
            self.assertEqual(run.story(), before[4])
            self.assertEqual(run.book(), before[5] + [(5, "begun")])
            self.assertEqual(list(run.all_values()), ["clk", "q"])
            with self.assertRaises(NoName):
                run.value("nobody")
            seen.append(thing)

        run.moment({"clk": "1"}, watch=watch)
        self.assertEqual(seen, ["b0", "b1", "b2", "b3"])
        self.assertIs(run.is_busy(), False)
        self.assertEqual(run.book(), before[5] + [(5, "begun"), (5, "over")])

    def test_another_moment_is_busy_ahead_of_all_else(self):
        run = racing()
        asked = ({}, {"changes": {"clk": "0"}}, {"changes": {"nobody": "0"}}, {"changes": {"clk": "z"}},
                 {"changes": {"q": None}, "deltas": 0, "things": 0, "order": [1], "watch": None})
        books = []

        def watch(thing):
            for more in asked:
                with self.assertRaises(Busy):
                    run.moment(**more)
            books.append(run.book())

        fresh = racing()
        self.assertEqual(run.moment({"clk": "1"}, watch=watch), fresh.moment({"clk": "1"}))
        self.assertEqual(state(run), state(fresh))
        self.assertEqual(books, [[(0, "begun"), (0, "over"), (1, "begun")]] * 4)

    def test_what_it_raises_goes_on_and_leaves_the_run_as_it_was(self):
        for at in range(4):
            for oops in (Oops("why"), KeyboardInterrupt(), SystemExit(), ValueError(), Busy("x"), NoName("x"),
                         Unending(7), StopIteration(), GeneratorExit()):
                run = racing()
                before = state(run)
                seen = []

                def watch(thing):
                    seen.append(thing)
                    if len(seen) == at + 1:
                        raise oops

                with self.assertRaises(type(oops)) as caught:
                    run.moment({"clk": "1"}, watch=watch)
                self.assertIs(caught.exception, oops)
                self.assertEqual(len(seen), at + 1)
                self.assertEqual(state(run)[:-1], before[:-1])
                self.assertEqual(run.book(), [(0, "begun"), (0, "over"), (1, "begun"), (1, "refused")])

    def test_behind_it_the_run_goes_on(self):
        run, fresh = racing(), racing()
        with self.assertRaises(ZeroDivisionError):
            run.moment({"clk": "1"}, order=[3], watch=lambda thing: 1 // 0)
        self.assertEqual(run.moment({"clk": "1"}, order=[1, 1, 1]), fresh.moment({"clk": "1"}, order=[1, 1, 1]))
        self.assertEqual(state(run)[:-1], state(fresh)[:-1])
        self.assertEqual(run.book()[2:], [(1, "begun"), (1, "refused"), (2, "begun"), (2, "over")])

    def test_busy_that_a_watch_lets_go_on(self):
        run = racing()
        with self.assertRaises(Busy):
            run.moment({"clk": "1"}, watch=lambda thing: run.moment())
        self.assertIs(run.is_busy(), False)
        self.assertEqual(run.book(), [(0, "begun"), (0, "over"), (1, "begun"), (1, "refused")])

    def test_other_runs_are_not_busy(self):
        run, other = racing(), racing()
        twin = run.copied()

        def watch(thing):
            self.assertEqual((run.is_busy(), other.is_busy(), twin.is_busy()), (True, False, False))
            other.moment({"clk": "1"})
            other.moment({"clk": "0"})
            twin.moment()

        run.moment({"clk": "1"}, watch=watch)
        self.assertEqual((run.moments(), other.moments(), twin.moments()), (2, 9, 5))

    def test_what_it_tells_has_no_bearing(self):
        run = racing()
        self.assertEqual(run.moment({"clk": "1"}, watch=lambda thing: True), 0)
        self.assertEqual(run.done_last(), ["b0", "b1", "b2", "b3"])

    def test_told_values_that_a_watch_changes(self):
        run = racing()
        run.moment({"clk": "1"}, watch=lambda thing: run.all_values().clear())
        self.assertEqual(run.all_values(), {"clk": "1", "q": "11"})


class Refusals(unittest.TestCase):
    def refused(self, kind, changes, who=None):
        run = racing()
        before = state(run)
        with self.assertRaises(kind) as caught:
            run.moment(changes)
        if who is not None:
            self.assertEqual(caught.exception.who, who)
        self.assertEqual(state(run), before)
        run.moment({"clk": "1"})
        self.assertEqual(run.book(), [(0, "begun"), (0, "over"), (1, "begun"), (1, "over")])

    def test_no_name(self):
        for who in ("q", "b0", "nobody", "", "CLK"):
            self.refused(NoName, {who: "1"}, who)
            self.refused(NoName, {"clk": "z", who: None}, who)
        for names in itertools.permutations(["clk", "one", "q"]):
            self.refused(NoName, {name: "1" for name in names}, [name for name in names if name != "clk"][0])

    def test_no_value(self):
        for value in ["", "z", "11", "2", " 1", "1\n", *NO_TEXTS]:
            self.refused(NoValue, {"clk": value})

    def test_value_of_no_signal(self):
        run = racing()
        for who in ("", "nobody", "b0", "CLK", "filters"):
            with self.assertRaises(NoName) as caught:
                run.value(who)
            self.assertEqual(caught.exception.who, who)


class Stories(unittest.TestCase):
    def test_times(self):
        run = counter()
        first = [(0, "clk", "x"), (0, "q", "0000")]
        self.assertEqual(run.story(), first)
        run.moment({"clk": "0"})
        self.assertEqual(run.story(), first + [(1, "clk", "0")])
        run.moment({"clk": "1"})
        told = first + [(1, "clk", "0"), (2, "clk", "1"), (4, "q", "0001")]
        self.assertEqual(run.story(), told)
        run.moment()
        self.assertEqual(run.story(), told)
        run.moment({"clk": "0"})
        self.assertEqual(run.story(), told + [(6, "clk", "0")])

    def test_those_of_one_time_in_the_signals_order(self):
        signals = [("kept", "q", 1, "0"), ("input", "c", 1, None), ("kept", "k", 1, "0"), ("input", "a", 1, None)]
        body = (("later", "k", ("not", K)), ("later", "q", ("not", Q)))
        run = run_of(signals, ("blk", "rise", "a", body))
        run.moment({"a": "0", "c": "0"})
        run.moment({"a": "1", "c": "1"})
        self.assertEqual(run.story(), [
            (0, "q", "0"), (0, "c", "x"), (0, "k", "0"), (0, "a", "x"), (1, "c", "0"), (1, "a", "0"), (2, "c", "1"),
            (2, "a", "1"), (4, "q", "1"), (4, "k", "1"),
        ])

    def test_a_thing_that_changes_nothing_takes_its_time(self):
        signals = inputs(a=1, c=1) + [("wire", "w", 1, ("and", A, C)), ("wire", "v", 1, ("not", A))]
        run = run_of(signals)
        run.moment({"a": "0", "c": "0"})
        run.moment({"a": "1"})
        run.moment({"a": "0"}, order=[1])
        self.assertEqual(run.story(), [
            (0, "a", "x"), (0, "c", "x"), (0, "w", "x"), (0, "v", "x"), (1, "a", "0"), (1, "c", "0"), (2, "w", "0"),
            (3, "v", "1"), (4, "a", "1"), (6, "v", "0"), (7, "a", "0"), (8, "v", "1"),
        ])

    def test_refused_moments_take_no_time(self):
        run = swinging("later")
        told = run.story()
        with self.assertRaises(Unending):
            run.moment({"a": "1"})
        with self.assertRaises(Oops):
            run.moment({"a": "1"}, watch=self.oops)
        with self.assertRaises(NoName):
            run.moment({"b": "1"})
        self.assertEqual(run.story(), told)
        run.moment({"a": "x"})
        self.assertEqual(run.story(), told + [(2, "a", "x")])

    def oops(self, thing):
        raise Oops(thing)

    def test_done_last_stays_behind_a_refused_moment(self):
        run = chain(2, "later")
        run.moment({"k0": "1"})
        told = run.done_last()
        self.assertEqual(told, ["b0", "later", "b1", "later"])
        run.copied().moment({"k0": "0"})
        with self.assertRaises(NoValue):
            run.moment({"k0": "z"})
        self.assertEqual(run.done_last(), told)
        run.moment()
        self.assertEqual(run.done_last(), [])


class Told(unittest.TestCase):
    def test_lists_and_dicts_are_the_askers_own(self):
        run = racing()
        run.moment({"clk": "1"})
        before = state(run)
        for told in (run.all_values, run.done_last, run.story, run.book):
            self.assertIsNot(told(), told())
            told().clear()
        run.book().append((7, "begun"))
        run.story().append((99, "q", "00"))
        run.done_last().append("more")
        run.all_values()["q"] = "00"
        self.assertEqual(state(run), before)
        run.moment({"clk": "0"})
        self.assertEqual(run.book(), before[-1] + [(2, "begun"), (2, "over")])
        self.assertEqual(run.story(), before[-2] + [(7, "clk", "0")])

    def test_told_lists_are_not_changed_by_later_moments(self):
        run = racing()
        told = state(run)
        kept_told = state(run)
        run.moment({"clk": "1"})
        self.assertEqual(told, kept_told)

    def test_of_two_runs_neither_knows_of_the_other(self):
        design = Design([CLOCK] + kept(q="0"), [("up", "rise", "clk", (("later", "q", ("not", Q)),))])
        one, other = EventRun(design), EventRun(design)
        before = state(other)
        one.moment({"clk": "0"})
        one.moment({"clk": "1"})
        self.assertEqual(state(other), before)
        self.assertEqual(state(EventRun(design)), before)

    def test_asked_again_the_same_is_told(self):
        run = racing()
        run.moment({"clk": "1"}, order=[3])
        self.assertEqual(state(run), state(run))
        self.assertEqual(run.value("q"), run.value("q"))

    def test_kinds(self):
        run = racing()
        self.assertEqual([type(part) for part in state(run)], [dict, int, bool, list, list, list])
        self.assertIs(type(run.moment()), int)
        self.assertEqual({type(row) for row in run.story() + run.book()}, {tuple})

    def test_behind_a_star_by_name_alone(self):
        with self.assertRaises(TypeError):
            racing().moment({"clk": "1"}, [1])
        with self.assertRaises(TypeError):
            EventRun(Design([]), "free")

    def test_the_lists_of_the_design_changed_later(self):
        signals, blocks = [CLOCK] + kept(q="0"), [("up", "rise", "clk", (("later", "q", ("not", Q)),))]
        run = EventRun(Design(signals, blocks))
        signals.clear()
        blocks.clear()
        run.moment({"clk": "0"})
        self.assertEqual((run.moment({"clk": "1"}), run.all_values()), (1, {"clk": "1", "q": "1"}))


class Copied(unittest.TestCase):
    def test_it_stands_as_the_other_and_goes_on_by_itself(self):
        for rule in RULES:
            run = racing(rule)
            run.moment({"clk": "1"}, order=[2, 2])
            run.moment({"clk": "0"})
            with self.assertRaises(Oops):
                run.moment({"clk": "1"}, watch=self.oops)
            twin = run.copied()
            self.assertIs(type(twin), EventRun)
            self.assertIsNot(twin, run)
            before = state(run)
            self.assertEqual(state(twin), before)
            twin.moment({"clk": "1"}, order=[3])
            self.assertEqual(state(run), before)
            run.moment({"clk": "1"}, order=[3])
            self.assertEqual(state(run), state(twin))
            run.moment({"clk": "0"})
            self.assertEqual((run.moments(), twin.moments()), (5, 4))

    def oops(self, thing):
        raise Oops(thing)

    def test_the_rule_goes_with_it(self):
        signals = inputs(a=1) + [("wire", "w", 1, A)] + kept(q="x")
        run = run_of(signals, ("blk", "rise", "a", (("now", "q", ("of", "w")),)), rule="free")
        run.moment({"a": "0"})
        twin = run.copied().copied()
        twin.moment({"a": "1"}, order=[1])
        self.assertEqual(twin.value("q"), "0")

    def test_while_the_run_is_busy(self):
        run = racing()
        before = state(run)
        twins = []

        def watch(thing):
            twins.append(run.copied())
            self.assertEqual(state(twins[-1]), before)

        run.moment({"clk": "1"}, order=[1], watch=watch)
        self.assertEqual(len(twins), 4)
        for twin in twins:
            self.assertEqual(state(twin), before)
            twin.moment({"clk": "1"}, order=[1])
            self.assertEqual(state(twin), state(run))

    def test_a_moment_of_a_copy_amid_one_of_the_run(self):
        run = racing()
        told = []

        def watch(thing):
            twin = run.copied()
            self.assertIs(twin.is_busy(), False)
            told.append((twin.moment({"clk": "1"}, order=[3, 2, 1]), twin.value("q"), run.value("q")))

        run.moment({"clk": "1"}, watch=watch)
        self.assertEqual(told, [(0, "00", "00"), (0, "00", "01"), (0, "00", "10"), (0, "00", "11")])

    def test_drawn(self):
        source = source_of("copied event runs")
        for _ in range(40):
            signals, blocks = drawn_any(source)
            run = EventRun(Design(signals, blocks), rule=source.choice(RULES))
            for _ in range(4):
                twin = run.copied()
                changes, order = drawn_put(source, signals), drawn_order(source)
                told = []
                for each in (run, twin):
                    try:
                        told.append(each.moment(changes, order=order, deltas=3, things=20))
                    except Unending as unending:
                        told.append(("unending", unending.deltas))
                self.assertEqual(told[0], told[1])
                self.assertEqual(state(run), state(twin))


class Drawn(unittest.TestCase):
    def test_against_the_words(self):
        source = source_of("event runs")
        seen = {"refused": 0, "deltas": 0, "things": 0, "watched": 0}
        for _ in range(300):
            signals, blocks = drawn_any(source)
            rule = source.choice(RULES)
            run, expected = EventRun(Design(signals, blocks), rule=rule), Events(signals, blocks, rule)
            for at in range(7):
                changes, order = drawn_put(source, signals, source.choice(["01", "01x"])), drawn_order(source)
                if source.random() < 0.8:
                    changes["i0"] = "01"[at % 2]
                limit, things = source.choice([0, 1, 2, 40, 40]), source.choice([0, 3, 10, 60, 60])
                names = []
                try:
                    deltas = expected.moment(changes, order, limit, things)
                except Refused as refused:
                    seen["refused"] += 1
                    with self.assertRaises(Unending) as caught:
                        run.moment(changes, order=order, deltas=limit, things=things, watch=names.append)
                    self.assertEqual(caught.exception.deltas, refused.deltas)
                else:
                    self.assertEqual(
                        run.moment(changes, order=order, deltas=limit, things=things, watch=names.append), deltas,
                    )
                    self.assertEqual(names, expected.last)
                    seen["deltas"] += deltas
                    seen["things"] += len(names)
                seen["watched"] += len(names)
                self.assertEqual(state(run), (expected.now, expected.over, False, expected.last, expected.told_story,
                                              expected.told_book))
        self.assertGreater(min(seen.values()), 100, seen)

    def test_the_things_of_a_moment_lead_from_its_beginning_to_its_end(self):
        source = source_of("event runs' things")
        for _ in range(60):
            signals, blocks = drawn_any(source)
            design, rule = Design(signals, blocks), source.choice(RULES)
            run = EventRun(design, rule=rule)
            for _ in range(4):
                changes = drawn_put(source, signals)
                here = begun(design, run.all_values(), changes)
                try:
                    run.moment(changes, order=drawn_order(source), things=50)
                except Unending:
                    continue
                for thing in run.done_last():
                    self.assertIn(thing, doable(design, here, rule=rule))
                    here = done(design, here, thing)
                self.assertEqual((here[0], here[1:]), (tuple(run.all_values().values()), ((), (), ())))

    def test_a_watch_that_raises_at_any_place(self):
        source = source_of("event runs left")
        left = 0
        for _ in range(40):
            signals, blocks = drawn_any(source)
            run = EventRun(Design(signals, blocks), rule=source.choice(RULES))
            for _ in range(4):
                changes, order, places = drawn_put(source, signals), drawn_order(source), [source.randrange(6)]

                def watch(thing):
                    places.append(thing)
                    if len(places) > places[0] + 1:
                        raise Oops(thing)

                before = state(run)
                try:
                    run.moment(changes, order=order, things=30, deltas=5, watch=watch)
                except (Oops, Unending):
                    left += 1
                    number = len(before[-1]) // 2
                    self.assertEqual(state(run)[:-1], before[:-1])
                    self.assertEqual(run.book(), before[-1] + [(number, "begun"), (number, "refused")])
        self.assertGreater(left, 30)


if __name__ == "__main__":
    unittest.main()
