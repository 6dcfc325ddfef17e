"""What point [4] promises of designs without a race: by every order the events come to where the net comes."""

import itertools
import unittest

from deltawires.configurations import begun, doable, done
from deltawires.designs import Design
from deltawires.errors import TooMany, Unending
from deltawires.eventruns import THINGS, EventRun
from deltawires.netruns import NetRun
from deltawires.orders import ends, is_alike
from deltawires.races import races
from designsamples import A, K, ONE, Q
from drawing import drawn_changes
from eventdrawing import drawn_calm, drawn_order
from samples import source_of

RULES = ("settled", "free")


def told_of(run, changes, **more):
    """How many deltas a moment had, or that it was refused behind so many."""
    try:
        return run.moment(changes, **more)
    except Unending as unending:
        return ("unending", unending.deltas)


def xor_of(terms):
    """All terms together, few of them within one another."""
    if len(terms) == 1:
        return terms[0]
    half = len(terms) // 2
    return ("xor", xor_of(terms[:half]), xor_of(terms[half:]))


def last_wires(design, here, rule):
    """An order that does the last pending wire each time, and blocks only where there is none."""
    numbers = []
    while choices := doable(design, here, rule=rule):
        number = max(len(here[1]) - 1, 0)
        if len(choices) > 1:
            numbers.append(number)
        here = done(design, here, choices[number])
    return numbers


def swinging_without_a_race():
    """A filter that each of its edges turns, by two signals, once the input has risen."""
    signals = [("input", "a", 1, None), ("kept", "k", 1, "0"), ("kept", "q", 1, "0"),
               ("filter", "f", 1, ("and", A, ("not", ("xor", K, Q))))]
    return Design(signals, [("up", "rise", "f", (("later", "k", ("not", K)),)),
                            ("down", "fall", "f", (("later", "q", ("not", Q)),))])


def counting_without_a_race(many):
    """As above, but no more than so many times."""
    more = ("less", ("of", "n"), ("is", format(many, "08b")))
    signals = [("input", "a", 1, None), ("kept", "k", 1, "0"), ("kept", "q", 1, "0"), ("kept", "n", 8, "0" * 8),
               ("kept", "m", 8, "0" * 8), ("filter", "f", 1, ("and", A, ("not", ("xor", K, Q))))]
    up = (("if", more, (("later", "k", ("not", K)), ("later", "n", ("plus", ("of", "n"), ("is", "1".zfill(8))))), ()),)
    return Design(signals, [("up", "rise", "f", up), ("down", "fall", "f", (("later", "q", ("not", Q)),))])


class WithoutARace(unittest.TestCase):
    def held_against_the_net(self, design, rule, moments):
        """The moments, tuples (changes, limit, order), in runs by the order told, by none, and by its reverse."""
        net = NetRun(design)
        runs = [EventRun(design, rule=rule) for _ in range(3)]
        for changes, limit, order in moments:
            here = begun(design, net.all_values(), changes)
            expected = told_of(net, changes, deltas=limit)
            for run, numbers in zip(runs, (order, (), list(order)[::-1])):
                self.assertEqual(told_of(run, changes, deltas=limit, order=numbers), expected)
                self.assertEqual(run.all_values(), net.all_values())
                self.assertEqual(run.moments(), net.moments())
            if isinstance(expected, int):
                self.all_end_alike(design, rule, here, net)
            yield expected

    def all_end_alike(self, design, rule, here, net):
        try:
            word, values, paper = ends(design, here, rule=rule)
        except TooMany:
            return
        self.assertEqual((word, values), ("alike", tuple(net.all_values().values())))
        self.assertIs(is_alike(design, paper, rule=rule), True)

    def test_drawn(self):
        source = source_of("without a race")
        for rule in RULES:
            seen = {"deltas": 0, "refused": 0}
            for _ in range(220):
                signals, blocks = drawn_calm(source, rule)
                design = Design(signals, blocks)
                self.assertEqual(races(design, rule=rule), [])
                signs = source.choice(["01", "01x"])
                moments = [
                    (drawn_changes(source, signals, signs, at), source.choice([0, 1, 2, 40, 40]), drawn_order(source))
                    for at in range(8)
                ]
                for expected in self.held_against_the_net(design, rule, moments):
                    seen["refused" if isinstance(expected, tuple) else "deltas"] += 1 if expected else 0
            self.assertGreater(min(seen.values()), 25, seen)

    def test_without_an_end(self):
        design = swinging_without_a_race()
        for rule in RULES:
            self.assertEqual(races(design, rule=rule), [])
            for limit in (0, 1, 2, 3, 17, 40):
                moments = [({"a": "0"}, limit, ()), ({"a": "1"}, limit, (1,)), ({"a": "x"}, limit, ())]
                told = list(self.held_against_the_net(design, rule, moments))
                self.assertEqual(told, [0, ("unending", limit), 0])
            here = begun(design, {"a": "0", "k": "0", "q": "0", "f": "0"}, {"a": "1"})
            self.assertEqual(ends(design, here, rule=rule)[0], "endless")

    def test_refused_just_where_the_net_is(self):
        for many in (1, 2, 5):
            design = counting_without_a_race(many)
            for rule, limit in itertools.product(RULES, range(0, 12)):
                self.assertEqual(races(design, rule=rule), [])
                moments = [({"a": "0"}, limit, ()), ({"a": "1"}, limit, ())]
                told = list(self.held_against_the_net(design, rule, moments))
                self.assertEqual(told, [0, 2 * many if 2 * many <= limit else ("unending", limit)])

    def test_with_all_wires_within_one_another(self):
        """Eight wires that each hang on all ahead of them, and blocks that set now: far more than a thousand things."""
        names = ["a"] + [f"k{at}" for at in range(6)]
        signals = [("input", "a", 1, None)] + [("kept", name, 1, "0") for name in names[1:]]
        for at in range(8):
            signals.append(("wire", f"w{at}", 1, xor_of([("of", name) for name in names])))
            names.append(f"w{at}")
        blocks = [(f"b{at}", "rise", "a", (("now", f"k{at}", ("not", ("of", f"k{at}"))),)) for at in range(6)]
        design = Design(signals, blocks)
        source = source_of("many things")
        for rule in RULES:
            self.assertEqual(races(design, rule=rule), [])
            net, most = NetRun(design), 0
            run = EventRun(design, rule=rule)
            for value in "01010101":
                here = begun(design, net.all_values(), {"a": value})
                order = last_wires(design, here, rule) if value == "1" else [source.randrange(9) for _ in range(500)]
                self.assertEqual(run.moment({"a": value}, order=order), net.moment({"a": value}))
                self.assertEqual(run.all_values(), net.all_values())
                most = max(most, len(run.done_last()))
            self.assertTrue(1000 < most < THINGS, most)

    def test_a_shift_register_by_every_order(self):
        signals = [("input", "clk", 1, None), ("input", "d", 1, None), ("kept", "k", 1, "0"), ("kept", "q", 1, "0"),
                   ("wire", "w", 2, ("join", K, Q))]
        blocks = [("one", "rise", "clk", (("later", "k", ("of", "d")),)), ("two", "rise", "clk", (("later", "q", K),))]
        design = Design(signals, blocks)
        for rule in RULES:
            for order in itertools.product(range(2), repeat=3):
                moments = [({"clk": at, "d": d}, 40, order) for at, d in zip("0101010", "1100110")]
                self.assertEqual(list(self.held_against_the_net(design, rule, moments)), [0, 1, 0, 1, 0, 1, 0])

    def test_with_a_race_the_events_may_part_from_the_net(self):
        signals = [("input", "a", 1, None), ("kept", "k", 1, "0"), ("kept", "q", 1, "0")]
        design = Design(signals, [("one", "rise", "a", (("now", "k", ONE),)), ("two", "rise", "a", (("now", "q", K),))])
        self.assertEqual(races(design), [("seen", "one", "two", "k")])
        net, told = NetRun(design), []
        net.moment({"a": "0"})
        net.moment({"a": "1"})
        for order in ((0,), (1,)):
            run = EventRun(design)
            run.moment({"a": "0"})
            run.moment({"a": "1"}, order=order)
            told.append(run.all_values() == net.all_values())
        self.assertEqual(told, [False, True])


if __name__ == "__main__":
    unittest.main()
