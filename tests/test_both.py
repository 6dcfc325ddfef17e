"""Point [25]: both runs of a design, side by side."""

import itertools
import unittest

from deltawires.both import Both
from deltawires.designs import Design
from deltawires.errors import NoName, NoValue, Unending
from deltawires.eventruns import EventRun
from deltawires.netruns import NetRun
from designsamples import A, BLOCKS, K, ONE, Q, SIGNALS, ZERO
from eventdrawing import drawn_any, drawn_calm, drawn_order, drawn_put
from samples import NO_TEXTS, source_of

RULES = ("settled", "free")


def inputs(*names):
    return [("input", name, 1, None) for name in names]


def kept(**firsts):
    return [("kept", name, len(first), first) for name, first in firsts.items()]


def shift():
    return Design(inputs("a") + kept(k="0", q="0"), [
        ("one", "rise", "a", (("later", "k", ("not", K)),)), ("two", "rise", "a", (("later", "q", K),)),
    ])


def seeing():
    """By one order the events come to where the net comes, by the other one they don't."""
    return Design(inputs("a") + kept(k="0", q="0"), [
        ("one", "rise", "a", (("now", "k", ONE),)), ("two", "rise", "a", (("now", "q", K),)),
    ])


def swinging():
    setting = ("later", "k", ("not", K))
    return Design(inputs("a") + kept(k="0"), [
        ("go1", "rise", "a", (setting,)), ("up", "rise", "k", (setting,)), ("down", "fall", "k", (setting,)),
    ])


def long_way(many):
    """So many rounds of "now": one more than forty-one of them are unending for the net alone."""
    turn = (("if", ("less", ("of", "n"), ("is", format(many - 1, "08b"))), (("now", "k", ("not", K)),), ()),
            ("now", "n", ("plus", ("of", "n"), ("is", "00000001"))))
    return Design(inputs("a") + kept(k="0", n="0" * 8), [
        ("go1", "rise", "a", turn), ("up", "rise", "k", turn), ("down", "fall", "k", turn),
    ])


def glitching(*blocks, **firsts):
    """The wire w rises for a time in event runs where the order is [1], never in net runs; the wire n is its other."""
    rows = [("wire", "n", 1, ("not", A)), ("wire", "w", 1, ("and", A, ("of", "n")))]
    return Design(inputs("a") + rows + kept(**firsts), list(blocks))


def risen(design, rule="settled"):
    """Both runs, up to where the input rises."""
    both = Both(design, rule=rule)
    both.moment({name: "0" for name in design.names(sort="input")})
    return both


def run_state(run):
    return (run.all_values(), run.moments(), run.is_busy(), run.done_last(), run.story(), run.book())


def net_state(run):
    return (run.all_values(), run.moments(), run.is_clear())


def state(both):
    return (both.all_values(), net_state(both.net_run()), run_state(both.event_run()))


class Moments(unittest.TestCase):
    def stays(self, both, expected, changes, **more):
        """What is told, and that both are as they were."""
        before = state(both)
        self.assertEqual(both.moment(changes, **more), expected)
        self.assertEqual(state(both), before)

    def test_first(self):
        for rule in RULES:
            design = Design(SIGNALS, BLOCKS)
            both = Both(design, rule=rule)
            self.assertEqual(state(both), (NetRun(design).all_values(), net_state(NetRun(design)),
                                           run_state(EventRun(design, rule=rule))))

    def test_alike(self):
        for rule in RULES:
            for order in ((), [1], (0,), [-3, 5]):
                both = Both(shift(), rule=rule)
                told = [both.moment({"a": value}, order=order) for value in "01010"]
                self.assertEqual(told, [("alike", 0), ("alike", 1), ("alike", 0), ("alike", 1), ("alike", 0)])
                self.assertEqual(both.all_values(), {"a": "0", "k": "0", "q": "1"})
                self.assertEqual(list(both.all_values()), ["a", "k", "q"])
                self.assertEqual((both.net_run().moments(), both.event_run().moments()), (5, 5))

    def test_without_changes(self):
        both = Both(shift())
        for asked in (lambda: both.moment(), lambda: both.moment(None), lambda: both.moment({}),
                      lambda: both.moment(changes=None)):
            self.assertEqual(asked(), ("alike", 0))

    def test_apart(self):
        both = risen(seeing())
        self.stays(both, ("apart", ["q"]), {"a": "1"})
        self.stays(both, ("apart", ["q"]), {"a": "1"}, order=[0])
        self.assertEqual(both.moment({"a": "1"}, order=[1]), ("alike", 0))
        self.assertEqual(both.all_values(), {"a": "1", "k": "1", "q": "0"})

    def test_apart_of_several_names_in_order(self):
        signals = [("wire", "w", 1, ("not", Q))] + kept(q="0") + inputs("a") + [("filter", "f", 1, Q)] + kept(k="0")
        blocks = [("one", "rise", "a", (("now", "k", ONE),)), ("two", "rise", "a", (("now", "q", K),))]
        self.stays(risen(Design(signals, blocks)), ("apart", ["w", "q", "f"]), {"a": "1"})

    def test_apart_of_no_name(self):
        """The events set a signal and take it back, by two deltas; the net has none."""
        design = glitching(("one", "rise", "w", (("later", "q", ONE),)), ("two", "rise", "q", (("later", "q", ZERO),)),
                           q="0")
        both = risen(design)
        self.stays(both, ("apart", []), {"a": "1"}, order=[1])
        self.assertEqual(both.moment({"a": "1"}, order=[0]), ("alike", 0))

    def test_unending_both(self):
        for rule in RULES:
            both = risen(swinging(), rule)
            self.stays(both, ("unending", "both"), {"a": "1"})
            self.stays(both, ("unending", "both"), {"a": "1"}, order=[1, 2])

    def test_unending_net(self):
        for many, expected in ((41, ("alike", 0)), (42, ("unending", "net")), (100, ("unending", "net"))):
            both = risen(long_way(many))
            if expected[0] == "alike":
                self.assertEqual(both.moment({"a": "1"}), expected)
            else:
                self.stays(both, expected, {"a": "1"})

    def test_unending_events(self):
        turn = (("later", "k", ("not", K)),)
        design = glitching(("go1", "rise", "w", turn), ("up", "rise", "k", turn), ("down", "fall", "k", turn), k="0")
        both = risen(design)
        self.stays(both, ("unending", "events"), {"a": "1"}, order=[1])
        self.assertEqual(both.moment({"a": "1"}), ("alike", 0))

    def test_limits_are_those_that_are_left_out(self):
        """Forty deltas, and no more."""
        for many in (39, 40, 41):
            turn = (("if", ("less", ("of", "n"), ("is", format(many - 1, "08b"))), (("later", "k", ("not", K)),), ()),
                    ("later", "n", ("plus", ("of", "n"), ("is", "00000001"))))
            both = risen(Design(inputs("a") + kept(k="0", n="0" * 8), [
                ("go1", "rise", "a", turn), ("up", "rise", "k", turn), ("down", "fall", "k", turn),
            ]))
            self.assertEqual(both.moment({"a": "1"}), ("alike", many) if many <= 40 else ("unending", "both"))

    def test_behind_a_moment_that_was_not_alike_as_if_it_had_not_been_asked_for(self):
        for design, changes in ((seeing(), {"a": "1"}), (swinging(), {"a": "1"}), (long_way(50), {"a": "1"})):
            both, fresh = risen(design), risen(design)
            self.assertNotEqual(both.moment(changes)[0], "alike")
            for more in ({"a": "x"}, {"a": "0"}, None):
                self.assertEqual(both.moment(more), fresh.moment(more))
                self.assertEqual(state(both), state(fresh))
            self.assertEqual(len(both.event_run().book()), 8)

    def test_no_name_and_no_value(self):
        both = risen(seeing())
        before = state(both)
        for names in itertools.permutations(["a", "q", "nobody"]):
            with self.assertRaises(NoName) as caught:
                both.moment({name: "z" for name in names})
            self.assertEqual(caught.exception.who, [name for name in names if name != "a"][0])
        for value in ["", "z", "00", *NO_TEXTS]:
            with self.assertRaises(NoValue):
                both.moment({"a": value})
        self.assertEqual(state(both), before)

    def test_rules(self):
        signals = inputs("a") + [("wire", "w", 1, A)] + kept(q="x")
        design = Design(signals, [("blk", "rise", "a", (("now", "q", ("of", "w")),))])
        for both, expected in ((Both(design), ("alike", 0)), (Both(design, rule="settled"), ("alike", 0)),
                               (Both(design, rule="free"), ("apart", ["q"]))):
            both.moment({"a": "0"})
            self.assertEqual(both.moment({"a": "1"}, order=[1]), expected)

    def test_kinds(self):
        both = risen(seeing())
        told = both.moment({"a": "1"})
        self.assertEqual([type(told), type(told[1])], [tuple, list])
        self.assertEqual(type(both.moment()), tuple)
        with self.assertRaises(TypeError):
            both.moment({"a": "1"}, [1])
        with self.assertRaises(TypeError):
            Both(seeing(), "free")


class ByThemselves(unittest.TestCase):
    def test_told_runs_go_on_by_themselves(self):
        both = risen(shift())
        before = state(both)
        net, events = both.net_run(), both.event_run()
        self.assertEqual([type(net), type(events)], [NetRun, EventRun])
        net.moment({"a": "1"})
        events.moment({"a": "1"}, order=[1])
        self.assertEqual(state(both), before)
        both.moment({"a": "1"}, order=[1])
        self.assertEqual((net_state(net), run_state(events)), state(both)[1:])
        both.moment({"a": "0"})
        self.assertEqual((net.moments(), events.moments()), (2, 2))
        self.assertIsNot(both.net_run(), both.net_run())
        self.assertIsNot(both.event_run(), both.event_run())

    def test_copied(self):
        for rule in RULES:
            both = risen(seeing(), rule)
            twin = both.copied()
            self.assertIs(type(twin), Both)
            self.assertEqual(state(twin), state(both))
            before = state(both)
            self.assertEqual(twin.moment({"a": "1"}, order=[1]), ("alike", 0))
            self.assertEqual(state(both), before)
            self.assertEqual(both.moment({"a": "1"}), ("apart", ["q"]))
            self.assertEqual(both.moment({"a": "1"}, order=[1]), ("alike", 0))
            self.assertEqual(state(twin), state(both))
            both.moment({"a": "0"})
            self.assertEqual(twin.all_values()["a"], "1")

    def test_the_rule_goes_with_a_copy(self):
        signals = inputs("a") + [("wire", "w", 1, A)] + kept(q="x")
        both = Both(Design(signals, [("blk", "rise", "a", (("now", "q", ("of", "w")),))]), rule="free")
        both.moment({"a": "0"})
        self.assertEqual(both.copied().copied().moment({"a": "1"}, order=[1]), ("apart", ["q"]))

    def test_of_two_neither_knows_of_the_other(self):
        design = shift()
        one, other = Both(design), Both(design)
        before = state(other)
        one.moment({"a": "0"})
        one.moment({"a": "1"})
        self.assertEqual(state(other), before)
        self.assertEqual(state(Both(design)), before)

    def test_told_values_are_the_askers_own(self):
        both = risen(seeing())
        both.all_values().clear()
        both.moment({"a": "1"})[1].append("more")
        self.assertEqual(both.moment({"a": "1"}), ("apart", ["q"]))
        self.assertEqual(both.all_values(), {"a": "0", "k": "0", "q": "0"})

    def test_what_is_handed_in_is_not_changed(self):
        both = risen(seeing())
        changes, order = {"a": "1"}, [1, 2, -3]
        both.moment(changes, order=order)
        self.assertEqual((changes, order), ({"a": "1"}, [1, 2, -3]))
        changes["a"] = "0"
        order.clear()
        self.assertEqual(both.all_values()["a"], "1")


class Drawn(unittest.TestCase):
    def told_by_runs(self, net, events, changes, order):
        """Point [25], by a net run and an event run; they are handed back behind the moment where it is alike."""
        new_net, new_events, refused = net.copied(), events.copied(), []
        deltas = []
        for name, run, more in (("net", new_net, {}), ("events", new_events, {"order": order})):
            try:
                deltas.append(run.moment(changes, **more))
            except Unending:
                refused.append(name)
        if refused:
            return ("unending", "both" if len(refused) == 2 else refused[0]), net, events
        names = [name for name in net.all_values() if new_net.value(name) != new_events.value(name)]
        if names or deltas[0] != deltas[1]:
            return ("apart", names), net, events
        return ("alike", deltas[0]), new_net, new_events

    def test_against_the_runs_by_themselves(self):
        source = source_of("both")
        seen = {"alike": 0, "apart": 0, "unending": 0}
        for _ in range(150):
            signals, blocks = drawn_any(source)
            design, rule = Design(signals, blocks), source.choice(RULES)
            both, net, events = Both(design, rule=rule), NetRun(design), EventRun(design, rule=rule)
            for at in range(6):
                changes, order = {**drawn_put(source, signals), "i0": "01"[at % 2]}, drawn_order(source)
                expected, net, events = self.told_by_runs(net, events, changes, order)
                self.assertEqual(both.moment(changes, order=order), expected)
                self.assertEqual(state(both), (net.all_values(), net_state(net), run_state(events)))
                seen[expected[0]] += 1
        self.assertGreater(min(seen.values()), 20, seen)

    def test_without_a_race_all_is_alike_or_unending_for_both(self):
        source = source_of("both without a race")
        for rule in RULES:
            for _ in range(60):
                signals, blocks = drawn_calm(source, rule)
                both = Both(Design(signals, blocks), rule=rule)
                for at in range(6):
                    changes = {**drawn_put(source, signals, "01x"), "i0": "01"[at % 2]}
                    told = both.moment(changes, order=drawn_order(source))
                    self.assertIn(told[0] if told[0] == "alike" else told, ("alike", ("unending", "both")))


if __name__ == "__main__":
    unittest.main()
