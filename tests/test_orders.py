"""Point [22]: where the orders end, and the papers that show it."""

import unittest

from deltawires.configurations import begun, doable, done
from deltawires.designs import Design
from deltawires.errors import NoName, TooMany
from deltawires.eventruns import EventRun
from deltawires.orders import MOST, ended, ends, is_alike
from designsamples import A, K, ONE, Q, ZERO
from eventdrawing import drawn_any, drawn_put
from eventoracles import Machine, ending_of, reached_from, walked
from samples import NO_TEXTS, source_of

RULES = ("settled", "free")


def inputs(*names):
    return [("input", name, 1, None) for name in names]


def kept(**firsts):
    return [("kept", name, len(first), first) for name, first in firsts.items()]


class Sly:
    """Claims to be equal to anything."""

    def __eq__(self, other):
        return True

    def __hash__(self):
        return 0


def wires(many):
    """An input and so many wires that hang on it alone: two to that many configurations."""
    return Design(inputs("a") + [("wire", f"w{at}", 1, A) for at in range(many)])


def begun_of(design, changes, rule="settled"):
    run = EventRun(design, rule=rule)
    run.moment({name: "0" * design.width_of_signal(name) for name in design.names(sort="input")})
    return begun(design, run.all_values(), changes)


def both(one, other):
    """Two blocks that one edge wakes, each with one statement, and what they set."""
    return Design(inputs("a") + kept(q="0", k="0"), [("one", "rise", "a", (one,)), ("two", "rise", "a", (other,))])


def swinging(word):
    setting = (word, "k", ("not", K))
    blocks = [("go1", "rise", "a", (setting,)), ("up", "rise", "k", (setting,)), ("down", "fall", "k", (setting,))]
    return Design(inputs("a") + kept(k="0"), blocks)


class Ends(unittest.TestCase):
    def shown(self, design, here, rule="settled", **more):
        """What is told, shown by the words of the document."""
        machine = Machine(design.signals(), design.blocks())
        told = ends(design, here, rule=rule, **more)
        self.assertIs(type(told), tuple)
        self.assertEqual(len(told), 3)
        if told[0] == "alike":
            self.show_paper(machine, here, rule, told)
        else:
            self.assertEqual([type(told[1]), type(told[2])], [tuple, tuple])
            first = walked(machine, here, rule, told[1])
            second = walked(machine, first if told[0] == "endless" else here, rule, told[2])
            self.assertNotIn(None, (first, second))
            if told[0] == "endless":
                self.assertNotEqual(told[2], ())
                self.assertEqual(first, second)
            else:
                self.assertEqual(told[0], "parted")
                self.assertEqual(machine.doable(first, rule) + machine.doable(second, rule), [])
                self.assertNotEqual(first[0], second[0])
        return told

    def show_paper(self, machine, here, rule, told):
        _, values, paper = told
        self.assertIs(type(paper), list)
        self.assertEqual(paper[0], here)
        self.assertEqual(len(set(paper)), len(paper))
        for at, one in enumerate(paper):
            things = machine.doable(one, rule)
            for thing in things:
                self.assertIn(machine.done(one, thing), paper[at + 1:])
            if not things:
                self.assertEqual(one[0], values)

    def test_most(self):
        self.assertEqual(MOST, 400)
        self.assertIs(type(MOST), int)

    def test_nothing_to_do(self):
        design = wires(2)
        here = begun_of(design, {})
        self.assertEqual(self.shown(design, here), ("alike", ("0", "0", "0"), [here]))

    def test_alike(self):
        for many in range(5):
            design = wires(many)
            told = self.shown(design, begun_of(design, {"a": "1"}))
            self.assertEqual((told[0], told[1], len(told[2])), ("alike", ("1",) * (many + 1), 2 ** many))

    def test_alike_though_blocks_race(self):
        design = both(("now", "q", ONE), ("now", "q", ONE))
        self.assertEqual(self.shown(design, begun_of(design, {"a": "1"}))[:2], ("alike", ("1", "1", "0")))

    def test_parted(self):
        design = both(("now", "q", ONE), ("now", "q", ZERO))
        for rule in RULES:
            told = self.shown(design, begun_of(design, {"a": "1"}), rule)
            self.assertEqual((told[0], sorted(told[1:])), ("parted", [("one", "two"), ("two", "one")]))

    def test_parted_by_what_is_told_for_later(self):
        design = both(("later", "q", ONE), ("later", "q", ZERO))
        told = self.shown(design, begun_of(design, {"a": "1"}))
        self.assertEqual((told[0], sorted(told[1:])), ("parted", [("one", "two", "later"), ("two", "one", "later")]))

    def test_parted_under_one_rule_alone(self):
        signals = inputs("a") + [("wire", "w", 1, A)] + kept(q="0")
        design = Design(signals, [("blk", "rise", "a", (("now", "q", ("of", "w")),))])
        here = begun_of(design, {"a": "1"})
        self.assertEqual([self.shown(design, here, rule)[0] for rule in RULES], ["alike", "parted"])
        self.assertEqual(ends(design, here)[0], "alike")

    def test_endless(self):
        for word in ("now", "later"):
            design = swinging(word)
            for rule in RULES:
                self.assertEqual(self.shown(design, begun_of(design, {"a": "1"}), rule)[0], "endless")

    def test_endless_goes_ahead_of_parted(self):
        """One order ends with q, another one without it, a third one does not end."""
        turn = ("now", "k", ("not", K))
        blocks = [("one", "rise", "a", (("now", "q", ONE), ("now", "k", ZERO))), ("two", "rise", "a", (turn,)),
                  ("three", "rise", "a", (("now", "q", ZERO),)),
                  ("up", "rise", "k", (("if", Q, (turn,), ()),)), ("down", "fall", "k", (("if", Q, (turn,), ()),))]
        design = Design(inputs("a") + kept(q="0", k="0"), blocks)
        self.assertEqual(self.shown(design, begun_of(design, {"a": "1"}))[0], "endless")

    def test_endless_from_within_a_ring(self):
        design = swinging("now")
        for here in ((("1", "1"), (), ("up",), ()), (("1", "0"), (), ("down",), ())):
            self.assertEqual(self.shown(design, here)[0], "endless")
            self.assertEqual(self.shown(design, here, most=2)[0], "endless")
            with self.assertRaises(TooMany):
                ends(design, here, most=1)

    def test_from_a_configuration_in_the_midst(self):
        design = both(("later", "q", ONE), ("now", "k", ONE))
        here = (("1", "0", "0"), (), ("two",), (("q", "1"),))
        self.assertEqual(self.shown(design, here)[:2], ("alike", ("1", "1", "1")))

    def test_too_many_just_kept_and_passed_by_one(self):
        for many in range(4):
            design = wires(many)
            here = begun_of(design, {"a": "1"})
            for most in range(0, 12):
                if 2 ** many <= most:
                    self.assertEqual(len(self.shown(design, here, most=most)[2]), 2 ** many)
                else:
                    with self.assertRaises(TooMany) as caught:
                        ends(design, here, most=most)
                    self.assertEqual(caught.exception.limit, most)

    def test_too_many_goes_ahead_of_all(self):
        for design in (both(("now", "q", ONE), ("now", "q", ZERO)), swinging("now"), swinging("later")):
            here = begun_of(design, {"a": "1"})
            machine = Machine(design.signals(), design.blocks())
            many = len(reached_from(machine, here, "settled", 10 ** 6))
            for most in range(many):
                with self.assertRaises(TooMany) as caught:
                    ends(design, here, most=most)
                self.assertEqual(caught.exception.limit, most)
            self.assertIn(self.shown(design, here, most=many)[0], ("parted", "endless"))

    def test_the_most_that_is_left_out(self):
        with self.assertRaises(TooMany) as caught:
            wide = Design(inputs("a") + [("wire", f"w{at}", 1, A) for at in range(8)] + kept(q="0", k="0", m="0"),
                          [("blk", "rise", "a", (("now", "q", ONE),))])
            ends(wide, begun_of(wide, {"a": "1"}), rule="free")
        self.assertEqual(caught.exception.limit, 400)
        self.assertEqual(len(ends(wide, begun_of(wide, {"a": "1"}), rule="free", most=512)[2]), 512)
        self.assertEqual(len(ends(wires(8), begun_of(wires(8), {"a": "1"}))[2]), 256)

    def test_exactly_four_hundred_configurations(self):
        """Five places in each of two rows of wires, and four blocks that are awake or not: 5 * 5 * 2 ** 4."""
        rows = [("wire", f"u{at}", 1, ("of", f"u{at - 1}") if at else A) for at in range(4)]
        rows += [("wire", f"v{at}", 1, ("of", f"v{at - 1}") if at else A) for at in range(4)]
        for last, many in (((), 400), ((("now", "q", ONE),), 400), ((("later", "q", Q),), 401)):
            blocks = [(f"b{at}", "rise", "a", last if at == 3 else ()) for at in range(4)]
            design = Design(inputs("a") + rows + kept(q="0"), blocks)
            here = begun_of(design, {"a": "1"})
            machine = Machine(design.signals(), design.blocks())
            self.assertEqual(len(reached_from(machine, here, "free", 1000)), many)
            if many == 400:
                self.assertEqual(len(ends(design, here, rule="free")[2]), 400)
            else:
                with self.assertRaises(TooMany) as caught:
                    ends(design, here, rule="free")
                self.assertEqual(caught.exception.limit, 400)

    def test_a_long_way(self):
        """More than a thousand configurations within one another."""
        turn = (("later", "t", ("not", ("of", "t"))), ("later", "n", ("plus", ("of", "n"), ("is", "00000001"))))
        stop = (("if", ("same", ("of", "n"), ("is", "1" * 8)), (), turn),)
        blocks = [("b0", "rise", "a", stop), ("b1", "rise", "t", stop), ("b2", "fall", "t", stop)]
        design = Design(inputs("a") + [("wire", "w", 1, ("of", "t")), ("wire", "v", 1, ("of", "w")),
                                       ("wire", "u", 1, ("of", "v"))] + kept(t="0", n="0" * 8), blocks)
        told = self.shown(design, begun_of(design, {"a": "1"}), most=5000)
        self.assertEqual(told[0], "alike")
        self.assertGreater(len(told[2]), 1200)
        blocks[1:] = [("b1", "rise", "t", turn), ("b2", "fall", "t", turn)]
        self.assertEqual(self.shown(Design(design.signals(), blocks), begun_of(design, {"a": "1"}), most=5000)[0],
                         "endless")

    def test_told_again_and_the_askers_own(self):
        design = wires(3)
        here = begun_of(design, {"a": "1"})
        first = ends(design, here)
        second = ends(design, here)
        self.assertEqual(first, second)
        self.assertIsNot(first[2], second[2])
        first[2].clear()
        self.assertEqual(ends(design, here), second)

    def test_behind_a_star_by_name_alone(self):
        design = wires(1)
        here = begun_of(design, {"a": "1"})
        with self.assertRaises(TypeError):
            ends(design, here, "free")
        with self.assertRaises(TypeError):
            is_alike(design, [here], "free")

    def test_drawn(self):
        source = source_of("ends")
        words = {}
        for _ in range(500):
            signals, blocks = drawn_any(source)
            design, machine = Design(signals, blocks), Machine(signals, blocks)
            rule, most = source.choice(RULES), source.choice([6, 60, 400])
            run = EventRun(design, rule=rule)
            run.moment({row[1]: "0" * row[2] for row in signals if row[0] == "input"})
            here = begun(design, run.all_values(), {**drawn_put(source, signals), "i0": "1"})
            word = ending_of(machine, here, rule, most)
            words[word] = words.get(word, 0) + 1
            if word == "many":
                with self.assertRaises(TooMany) as caught:
                    ends(design, here, rule=rule, most=most)
                self.assertEqual(caught.exception.limit, most)
            else:
                told = self.shown(design, here, rule, most=most)
                self.assertEqual(told[0], word)
                if word == "alike":
                    self.assertIs(is_alike(design, told[2], rule=rule), True)
        self.assertEqual(sorted(words), ["alike", "endless", "many", "parted"])
        self.assertGreater(min(words.values()), 8, words)


class Papers(unittest.TestCase):
    def setUp(self):
        blocks = [("one", "rise", "a", (("later", "q", ONE), ("now", "k", ONE))), ("two", "rise", "a", ())]
        rows = [("bus", "b", 2, ((K, ("join", Q, A)), (ZERO, ("is", "00")))), ("wire", "w", 1, ("not", A)),
                ("filter", "f", 1, ("of", "w"))]
        self.design = Design(inputs("a") + kept(q="0", k="0") + rows, blocks)
        self.here = begun_of(self.design, {"a": "1"})
        self.paper = ends(self.design, self.here)[2]

    def check(self, paper, expected, rule="settled"):
        told = is_alike(self.design, paper, rule=rule)
        self.assertIs(told, expected, paper)

    def test_a_paper(self):
        self.check(self.paper, True)
        self.assertIs(is_alike(self.design, self.paper), True)
        self.assertGreater(len(self.paper), 5)
        for rule in RULES:
            self.check(ends(self.design, self.here, rule=rule)[2], True, rule)

    def test_whatever_the_first(self):
        """What stands at the end of a paper is one, too; so is one that has more at its beginning."""
        for at in range(len(self.paper)):
            self.check(self.paper[at:], True)
        idle = (self.paper[0][0], self.paper[0][1], ("one", "two"), (("q", "0"),))
        self.assertNotIn(idle, self.paper)
        self.check(ends(self.design, idle)[2], True)

    def test_by_the_rule(self):
        self.check(self.paper, False, "free")
        self.check(ends(self.design, self.here, rule="free")[2], True, "free")

    def test_one_taken_away(self):
        for at in range(1, len(self.paper)):
            self.check(self.paper[:at] + self.paper[at + 1:], False)

    def test_one_twice(self):
        for at in range(len(self.paper)):
            for place in range(len(self.paper) + 1):
                self.check(self.paper[:place] + [self.paper[at]] + self.paper[place:], False)

    def test_two_the_other_way_about(self):
        machine = Machine(self.design.signals(), self.design.blocks())
        for at in range(len(self.paper)):
            for other in range(at + 1, len(self.paper)):
                paper = list(self.paper)
                paper[at], paper[other] = paper[other], paper[at]
                expected = all(
                    machine.done(one, thing) in paper[place + 1:]
                    for place, one in enumerate(paper) for thing in machine.doable(one, "settled")
                )
                self.check(paper, expected)
        self.check(self.paper[::-1], False)

    def test_two_ends_with_unlike_values(self):
        still = [(values, (), (), ()) for values in (
            ("0", "0", "0", "zz", "1", "1"), ("0", "1", "0", "zz", "1", "1"), ("0", "0", "0", "0z", "1", "1"),
        )]
        for one in still:
            self.check([one], True)
            for other in still:
                if one != other:
                    self.check([one, other], False)
        self.check([still[0], (still[0][0], (), (), (("q", "0"),))], False)
        self.check([(still[0][0], (), (), (("q", "0"),)), still[0]], True)

    def test_no_paper(self):
        for thing in [*NO_TEXTS, [], tuple(self.paper), "paper", {at: one for at, one in enumerate(self.paper)},
                      [self.paper], [[]], [()], [None], [self.paper[-1], None], [list(self.paper[-1])]]:
            self.check(thing, False)

    def spoilt(self, at, part):
        """The last configuration of the paper, in which nothing is doable, with another part."""
        last = list(self.paper[-1])
        last[at] = part
        return [tuple(last)]

    def test_values_spoilt(self):
        values = self.paper[-1][0]
        self.assertEqual(values, ("1", "1", "1", "11", "0", "0"))
        self.check(self.spoilt(0, values), True)
        for spoilt in ((), values[:-1], values + ("0",), list(values), "111", None, tuple([None] * 6)):
            self.check(self.spoilt(0, spoilt), False)
        for at, value in enumerate(values):
            for wrong in ("", "z", "2", "zzz", value + "0", None, 1, True, [value], (value,), b"1", " ", "0\n"):
                self.check(self.spoilt(0, values[:at] + (wrong,) + values[at + 1:]), False)
        self.check(self.spoilt(0, values[:3] + ("zz",) + values[4:]), True)
        self.check(self.spoilt(0, values[:3] + ("x0",) + values[4:]), True)
        self.check(self.spoilt(0, values[:1] + ("x",) + values[2:]), True)

    def test_names_spoilt(self):
        def paper_of(at, names):
            """A paper that begins with these names pending or awake, whatever they are."""
            begin = self.spoilt(at, names)[0]
            machine = Machine(self.design.signals(), self.design.blocks())
            try:
                found = reached_from(machine, begin, "settled", 50)
            except (KeyError, TypeError):
                return [begin, self.paper[-1]]
            return [begin] + sorted(
                [one for one in found if one != begin], key=lambda one: len(one[1] + one[2] + one[3]), reverse=True
            )

        for at, good, wrong in (
            (1, ((), ("b",), ("w",), ("b", "w")), (("w", "b"), ("b", "b"), ("q",), ("f",), ("one",), ("nobody",),
                                                    (None,), (["b"],), ["b"], "b", None, ("b", "w", "later"))),
            (2, ((), ("one",), ("two",), ("one", "two")), (("two", "one"), ("one", "one"), ("w",), ("later",), (1,),
                                                           (("one",),), ["one"], "one", None, {"one": True})),
        ):
            for names in good:
                self.check(paper_of(at, names), True)
            for names in wrong:
                self.check(paper_of(at, names) if isinstance(names, tuple) else self.spoilt(at, names), False)

    def test_told_spoilt(self):
        last = self.paper[-1]
        self.check(self.spoilt(3, (("q", "1"),)) + [last], True)
        for told in (
            (("k", "1"),), (("a", "1"),), (("w", "0"),), (("q", "1"), ("q", "1")), (("q", "11"),), (("q", "z"),),
            (("q", ""),), (("q", None),), (("q",),), (("q", "1", "1"),), ("q1",), (["q", "1"],), [("q", "1")],
            ("q", "1"), (None,), ((None, "1"),), ((["q"], "1"),), None, "", {"q": "1"}, {},
        ):
            self.check(self.spoilt(3, told) + [last], False)
        self.check(self.spoilt(3, (("q", "0"),)) + [last], False)

    def test_told_in_the_signals_order(self):
        signals = inputs("a") + kept(q="0", k="0")
        design = Design(signals, [("one", "rise", "a", (("later", "k", ONE), ("later", "q", ONE)))])
        last = (("1", "1", "1"), (), (), ())
        for told, expected in (((("q", "1"), ("k", "1")), True), ((("k", "1"), ("q", "1")), False)):
            self.assertIs(is_alike(design, [(last[0], (), (), told), last]), expected)

    def test_shapes_spoilt(self):
        last = self.paper[-1]
        for wrong in (last[:3], last + ((),), list(last), last[0], (last,), (), None, "last", {}):
            self.check([wrong], False)
            self.check(self.paper[:-1] + [wrong], False)

    def test_of_another_design(self):
        self.assertIs(is_alike(wires(2), self.paper), False)
        self.assertIs(is_alike(Design([]), self.paper), False)
        self.assertIs(is_alike(Design([]), [((), (), (), ())]), True)
        self.assertIs(is_alike(Design([]), [((), (), (), ()), ((), (), (), ())]), False)

    def test_forty_within_one_another(self):
        for wrap in (lambda thing: [thing], lambda thing: (thing,), lambda thing: {"a": thing}):
            deep = self.paper
            for _ in range(38):
                deep = wrap(deep)
                self.check(deep, False)
                self.check([deep], False)
                self.check(self.spoilt(0, deep), False)
                self.check(self.spoilt(1, (deep,)), False)
                self.check(self.spoilt(3, (("q", deep),)), False)
                self.check(self.spoilt(3, ((deep, "1"),)), False)

    def test_what_claims_to_be_equal_to_all(self):
        last = self.paper[-1]
        self.check([(last[0], (Sly(),), (), ())], False)
        self.check([(last[0], ("b", Sly()), (), ())], False)
        self.check([(last[0], (), (Sly(), Sly()), ())], False)
        self.check([(last[0], (), (), ((Sly(), "1"),)), last], False)
        self.check([(last[0], (), (), (("q", Sly()),)), last], False)
        self.check([(tuple([Sly()] * 6), (), (), ())], False)
        self.check([Sly()], False)

    def test_a_ring_is_no_paper(self):
        design = swinging("now")
        ring = [(("1", "1"), (), ("up",), ()), (("1", "0"), (), ("down",), ())]
        for paper in (ring, ring[::-1], ring[:1]):
            self.assertIs(is_alike(design, paper), False)

    def test_what_is_handed_in_is_not_changed(self):
        paper = list(self.paper)
        is_alike(self.design, paper)
        self.assertEqual(paper, self.paper)
        self.assertEqual([type(one) for one in paper], [tuple] * len(paper))

    def test_drawn_papers_spoilt(self):
        """Against the words: each doable leads behind, all unlike, the ends with the same values."""
        source = source_of("papers")
        seen = {True: 0, False: 0}
        for _ in range(60):
            signals, blocks = drawn_any(source)
            design, machine = Design(signals, blocks), Machine(signals, blocks)
            rule = source.choice(RULES)
            here = begun(design, EventRun(design).all_values(), {**drawn_put(source, signals), "i0": "1"})
            found = reached_from(machine, here, rule, 30)
            if found is None:
                continue
            for _ in range(12):
                paper = sorted(found, key=lambda one: (-len(one[1] + one[2] + one[3]), source.random()))
                if source.random() < 0.3:
                    paper.pop(source.randrange(len(paper)))
                if paper and source.random() < 0.3:
                    paper.insert(source.randrange(len(paper)), source.choice(paper))
                finals = {one[0] for one in paper if not machine.doable(one, rule)}
                expected = len(paper) == len(set(paper)) and len(finals) == 1 and all(
                    machine.done(one, thing) in paper[at + 1:]
                    for at, one in enumerate(paper) for thing in machine.doable(one, rule)
                )
                self.assertIs(is_alike(design, paper, rule=rule), expected)
                seen[expected] += 1
        self.assertGreater(min(seen.values()), 50, seen)


class Ended(unittest.TestCase):
    def test_things_one_after_another(self):
        design = both(("later", "q", ONE), ("now", "k", ONE))
        here = begun_of(design, {"a": "1"})
        for kind in (list, tuple):
            self.assertEqual(ended(design, here, kind([])), here)
            self.assertEqual(ended(design, here, kind(["two"])), (("1", "0", "1"), (), ("one",), ()))
            self.assertEqual(ended(design, here, kind(["two", "one", "later"])), (("1", "1", "1"), (), (), ()))

    def test_by_no_rule(self):
        design = both(("later", "q", ONE), ("now", "k", ONE))
        here = begun_of(design, {"a": "1"})
        self.assertEqual(ended(design, here, ["later", "filters", "one", "filters", "later", "two", "later"]),
                         (("1", "1", "1"), (), (), ()))

    def test_no_name(self):
        design = both(("later", "q", ONE), ("now", "k", ONE))
        here = begun_of(design, {"a": "1"})
        for things, who in ((["one", "one"], "one"), (["nobody"], "nobody"), (["two", "q", "three"], "q"), ([""], "")):
            with self.assertRaises(NoName) as caught:
                ended(design, here, things)
            self.assertEqual(caught.exception.who, who)

    def test_handed_in_things_are_not_changed(self):
        design = both(("later", "q", ONE), ("now", "k", ONE))
        things = ["two", "one", "later"]
        ended(design, begun_of(design, {"a": "1"}), things)
        self.assertEqual(things, ["two", "one", "later"])

    def test_as_done_again_and_again(self):
        source = source_of("ended")
        for _ in range(60):
            signals, blocks = drawn_any(source)
            design = Design(signals, blocks)
            here = first = begun(design, EventRun(design).all_values(), drawn_put(source, signals))
            things = []
            for _ in range(12):
                choices = doable(design, here, rule="free") + ["filters", "later"]
                things.append(source.choice(choices))
                here = done(design, here, things[-1])
                self.assertEqual(ended(design, first, things), here)


if __name__ == "__main__":
    unittest.main()
