"""Point [16], and what [4] says of the net's gates."""

import itertools
import unittest

from deltawires.bodies import body_done
from deltawires.designs import Design
from deltawires.errors import NoName
from deltawires.nets import Net
from deltawires.settling import settled
from designsamples import A, B, BLOCKS, C, K, ONE, Q, SIGNALS, ZERO, full_blocks, full_signals
from drawing import PAIRED, drawn_blocks, drawn_given, drawn_signals
from oracles import alike_or_x, operator_value, resolved_value, settled_values, statements_within
from samples import drawn_value, filled, source_of, texts

NUMBERS = {"not": 1, "and": 2, "or": 2, "xor": 2, "pick": 3, "most": 3, "read": 1}


def most_value(signs):
    """What at least two of three are, by all fillings of the three."""
    return alike_or_x([
        "1" if chosen.count("1") > 1 else "0" for chosen in itertools.product(*[filled(sign) for sign in signs])
    ])


def bus_sign(pairs):
    ways = itertools.product(*[when if when in "01" else "01" for when, _ in pairs])
    return alike_or_x([
        resolved_value([sign if way == "1" else "z" for way, (_, sign) in zip(chosen, pairs)]) for chosen in ways
    ])


def reckoned_signs(gates, given):
    """The gates' signs from the first on, by the words of the document."""
    signs = []
    for gate in gates:
        word = gate[0]
        if word == "bit":
            signs.append(given[gate[1]][::-1][gate[2]])
            continue
        if word == "is":
            signs.append(gate[1])
            continue
        handed = [sign.replace("z", "x") for sign in signs]
        if word == "bus":
            signs.append(bus_sign([(handed[when], handed[number]) for when, number in gate[1]]))
        elif word == "read":
            signs.append(handed[gate[1]])
        elif word == "most":
            signs.append(most_value([handed[number] for number in gate[1:]]))
        else:
            signs.append(operator_value(word, *[handed[number] for number in gate[1:]]))
    return signs


class NetCase(unittest.TestCase):
    def is_number_below(self, thing, limit):
        self.assertIs(type(thing), int)
        self.assertTrue(0 <= thing < limit, (thing, limit))

    def check_gate(self, design, gate, at):
        self.assertIs(type(gate), tuple)
        word = gate[0]
        if word == "bit":
            self.assertEqual(len(gate), 3)
            self.assertIn(design.sort_of(gate[1]), ("input", "kept"))
            self.is_number_below(gate[2], design.width_of_signal(gate[1]))
        elif word == "is":
            self.assertEqual(len(gate), 2)
            self.assertIn(gate[1], ("0", "1", "x"))
        elif word == "bus":
            self.assertEqual(len(gate), 2)
            self.assertIs(type(gate[1]), tuple)
            for pair in gate[1]:
                self.assertIs(type(pair), tuple)
                self.assertEqual(len(pair), 2)
                for number in pair:
                    self.is_number_below(number, at)
        else:
            self.assertEqual(len(gate), 1 + NUMBERS[word])
            for number in gate[1:]:
                self.is_number_below(number, at)

    def check_form(self, design, net):
        gates = net.gates()
        self.assertIs(type(gates), list)
        for at, gate in enumerate(gates):
            self.check_gate(design, gate, at)
        for name in design.names():
            outlet = net.outlet(name)
            self.assertIs(type(outlet), tuple)
            self.assertEqual(len(outlet), design.width_of_signal(name))
            for number in outlet:
                self.is_number_below(number, len(gates))
        for block, _, _, body in design.blocks():
            told = net.sets(block)
            self.assertIs(type(told), dict)
            self.assertEqual(set(told), {part[1] for part in statements_within(body) if part[0] != "if"})
            for name, numbers in told.items():
                self.assertIs(type(numbers), tuple)
                self.assertEqual(len(numbers), design.width_of_signal(name))
                for number in numbers:
                    self.is_number_below(number, len(gates))

    def check_signs(self, design, net, given):
        signs = net.signs(given)
        self.assertIs(type(signs), list)
        self.assertEqual(signs, reckoned_signs(net.gates(), given))
        values = settled(design, given)
        for name in design.names():
            self.assertEqual("".join([signs[number] for number in net.outlet(name)]), values[name], (name, given))
        for block, _, _, body in design.blocks():
            now, later = body_done(body, values)
            for name, numbers in net.sets(block).items():
                expected = now.get(name, later.get(name, values[name]))
                self.assertEqual("".join([signs[number] for number in numbers]), expected, (block, name, given))

    def check_design(self, design, source, times=6):
        net = Net(design)
        self.check_form(design, net)
        for _ in range(times):
            self.check_signs(design, net, drawn_given(source, design.signals(),
                                                      source.choice(["01", "0011x", "01x", "x"])))


class Operators(NetCase):
    def check_term(self, term, widths, width):
        rows = [("input", name, widths[name], None) for name in widths] + [("wire", "out", width, term)]
        design = Design(rows)
        net = Net(design)
        self.check_form(design, net)
        for values in itertools.product(*[texts("01x", wide) for wide in widths.values()]):
            given = dict(zip(widths, values))
            signs = net.signs(given)
            told = "".join([signs[number] for number in net.outlet("out")])
            self.assertEqual(told, settled_values(rows, given)["out"], (term, given))

    def test_of_one(self):
        for width in (1, 2, 3, 4):
            self.check_term(A, {"a": width}, width)
            self.check_term(("not", A), {"a": width}, width)
            self.check_term(("any", A), {"a": width}, 1)
            self.check_term(("all", A), {"a": width}, 1)

    def test_of_two(self):
        for width in (1, 2, 3):
            for word in PAIRED:
                self.check_term((word, A, B), {"a": width, "b": width}, 1 if word in ("same", "less") else width)

    def test_pick_join_part(self):
        for width in (1, 2):
            self.check_term(("pick", C, A, B), {"c": 1, "a": width, "b": width}, width)
        self.check_term(("join", A, B), {"a": 2, "b": 1}, 3)
        self.check_term(("join", A, B), {"a": 1, "b": 3}, 4)
        for high in range(4):
            for low in range(high + 1):
                self.check_term(("part", A, high, low), {"a": 4}, high - low + 1)

    def test_values(self):
        self.check_term(("is", "01x"), {}, 3)
        self.check_term(("plus", ("is", "0x1"), A), {"a": 3}, 3)

    def test_the_same_name_twice_goes_by_itself_each_time(self):
        for word in PAIRED:
            self.check_term((word, A, A), {"a": 2}, 1 if word in ("same", "less") else 2)
        self.check_term(("pick", A, A, ("not", A)), {"a": 1}, 1)

    def test_eight_bits(self):
        source = source_of("eight bits")
        rows = [("input", "a", 8, None), ("input", "b", 8, None), ("input", "c", 1, None)]
        for word in PAIRED:
            rows.append(("filter", f"{word}s", 1 if word in ("same", "less") else 8, (word, A, B)))
        rows.append(("filter", "picks", 8, ("pick", C, A, B)))
        self.check_design(Design(rows), source, times=120)


class Signals(NetCase):
    def test_the_highest_bit_stands_first(self):
        design = Design([("input", "a", 4, None), ("kept", "k", 3, "000")])
        net = Net(design)
        self.check_form(design, net)
        for value in texts("01x", 4):
            signs = net.signs({"a": value, "k": value[1:]})
            self.assertEqual("".join([signs[number] for number in net.outlet("a")]), value)
            self.assertEqual("".join([signs[number] for number in net.outlet("k")]), value[1:])

    def test_written(self):
        net = Net(Design(SIGNALS, BLOCKS))
        given = {"clk": "1", "d": "0011", "q": "0101", "n": "x"}
        signs = net.signs(given)
        told = {name: "".join([signs[number] for number in net.outlet(name)])
                for name in ("clk", "d", "w", "f", "b", "q", "n")}
        self.assertEqual(told, {"clk": "1", "d": "0011", "w": "1000", "f": "0", "b": "xx01", "q": "0101", "n": "x"})
        sets = {
            block: {name: "".join([signs[number] for number in numbers]) for name, numbers in net.sets(block).items()}
            for block in ("up", "down", "idle")
        }
        self.assertEqual(sets, {"up": {"q": "1000", "n": "x"}, "down": {"q": "0101", "n": "1"}, "idle": {}})

    def test_z_on_a_bus_and_read_from_it(self):
        rows = [
            ("input", "a", 1, None), ("bus", "b", 2, ((A, ("is", "01")), (ZERO, ("is", "10")))), ("wire", "w", 2, B),
            ("filter", "f", 1, ("part", B, 0, 0)), ("wire", "j", 4, ("join", B, ("of", "w"))),
            ("bus", "e", 2, ((ONE, B), (A, B))), ("bus", "g", 1, ((("part", B, 0, 0), ONE), (ZERO, ONE))),
            ("wire", "h", 1, ("any", ("part", B, 1, 1))), ("wire", "p", 2, ("pick", ("part", B, 0, 0), B, B)),
            ("kept", "k", 2, "00"),
        ]
        design = Design(rows, [("blk", "rise", "a", (("now", "k", B),
                                                     ("if", ("part", B, 1, 1), (("now", "k", ("not", B)),), ())))])
        net = Net(design)
        self.check_form(design, net)
        for value in "01x":
            for kept in texts("01x", 2):
                self.check_signs(design, net, {"a": value, "k": kept})

    def test_nothing(self):
        net = Net(Design([]))
        self.assertEqual(net.signs({}), reckoned_signs(net.gates(), {}))

    def test_in_any_order_of_the_list(self):
        source = source_of("net orders")
        for order in itertools.islice(itertools.permutations(SIGNALS), 0, None, 401):
            self.check_design(Design(list(order), BLOCKS), source, times=2)


class Blocks(NetCase):
    rows = [("input", "a", 1, None), ("input", "c", 1, None), ("kept", "k", 1, "0"), ("kept", "q", 1, "0"),
            ("kept", "m", 2, "00")]
    setting = ("now", "k", ("not", K))
    telling = ("later", "q", ("not", Q))

    def check_body(self, *body):
        design = Design(self.rows, [("blk", "rise", "a", body)])
        net = Net(design)
        self.check_form(design, net)
        for signs in itertools.product("01x", repeat=4):
            self.check_signs(design, net, dict(zip("ackq", signs), m=signs[0] + signs[1]))

    def test_bodies(self):
        setting, telling = self.setting, self.telling
        for body in (
            (), (setting,), (telling,), (setting, telling), (setting, ("now", "m", ("join", K, A))),
            (setting, setting, ("later", "q", K)), (telling, ("later", "q", A)), (telling, ("now", "k", Q)),
            (("if", C, (setting,), ()),), (("if", C, (), (telling,)),), (("if", C, (setting,), (("now", "k", A),)),),
            (("if", C, (setting, telling), (("later", "q", K),)), ("now", "m", ("join", K, K))),
            (setting, ("if", C, (setting,), (("now", "k", A), ("if", A, (telling,), (setting,))))),
            (("if", C, (("if", A, (setting,), ()),), (("if", A, (), (setting, telling)),)),
             ("if", K, (("later", "q", ONE),), ())),
            (telling, ("if", C, (), (("later", "q", A),)), ("if", A, (("later", "q", C),), (setting,))),
            (("if", ZERO, (setting, telling), ()),), (("if", ("is", "x"), (setting,), (telling,)),),
            (("if", A, (), ()),), (("if", A, (("if", C, (("if", K, (setting,), (telling,)),), ()),), ()),),
        ):
            self.check_body(*body)

    def test_a_signal_that_is_not_come_to_is_what_it_was(self):
        design = Design(self.rows, [("blk", "rise", "a", (("if", ZERO, (self.setting, self.telling), ()),))])
        net = Net(design)
        for kept in itertools.product("01x", repeat=2):
            signs = net.signs({"a": "0", "c": "0", "k": kept[0], "q": kept[1], "m": "00"})
            told = {name: "".join([signs[number] for number in numbers]) for name, numbers in net.sets("blk").items()}
            self.assertEqual(told, {"k": kept[0], "q": kept[1]})

    def test_no_name(self):
        net = Net(Design(SIGNALS, BLOCKS))
        for who in ("", "nobody", "up", "down", "idle", "cl", "CLK", "not"):
            with self.assertRaises(NoName) as caught:
                net.outlet(who)
            self.assertEqual(caught.exception.who, who)
        for who in ("", "nobody", "clk", "q", "n", "u", "ups", "UP", "not"):
            with self.assertRaises(NoName) as caught:
                net.sets(who)
            self.assertEqual(caught.exception.who, who)


class Drawn(NetCase):
    def test_against_settled_and_bodies(self):
        source = source_of("nets")
        for _ in range(60):
            signals = drawn_signals(source, wires=source.randrange(0, 6), filters=source.randrange(0, 3))
            self.check_design(Design(signals, drawn_blocks(source, signals, source.randrange(1, 4))), source)

    def test_all_that_there_may_be(self):
        self.check_design(Design(full_signals(), full_blocks()), source_of("full net"))

    def test_wide_terms_with_few_unknown_bits(self):
        source = source_of("wide nets")
        rows = [("input", f"i{at}", 8, None) for at in range(4)]
        of = [("of", f"i{at}") for at in range(4)]
        rows += [
            ("wire", "s", 8, ("plus", ("plus", of[0], of[1]), ("xor", of[2], of[3]))),
            ("wire", "l", 1, ("less", ("of", "s"), of[0])),
            ("wire", "e", 1, ("same", ("and", of[0], of[1]), ("or", of[2], of[3]))),
            ("bus", "b", 8, ((("of", "l"), of[0]), (("of", "e"), of[1]), (("any", of[2]), ("of", "s")))),
        ]
        design = Design(rows)
        net = Net(design)
        for _ in range(120):
            given = {f"i{at}": drawn_value(source, 8, source.choice(["01", "000000x", "1111x", "01x"]))
                     for at in range(4)}
            self.check_signs(design, net, given)


class HandedInAndTold(NetCase):
    def test_given_is_not_changed_and_what_else_is_in_it_has_no_bearing(self):
        net = Net(Design(SIGNALS, BLOCKS))
        given = {"clk": "1", "d": "0011", "q": "0101", "n": "x"}
        kept = dict(given)
        first = net.signs(given)
        self.assertEqual(list(given.items()), list(kept.items()))
        self.assertEqual(net.signs({"w": "zzzz", "nobody": "1", "b": "0000", **given}), first)

    def test_told_things_are_the_askers_own(self):
        net = Net(Design(SIGNALS, BLOCKS))
        given = {"clk": "1", "d": "0011", "q": "0101", "n": "x"}

        def answers():
            return net.gates(), net.sets("up"), net.sets("idle"), net.signs(given), net.outlet("w")

        first = answers()
        changed = answers()
        changed[0].append(("is", "1"))
        changed[0][0] = ("is", "0")
        changed[1].clear()
        changed[2]["q"] = (0, 1)
        changed[3].append("1")
        self.assertEqual(answers(), first)
        for one, other in zip(answers()[:4], answers()[:4]):
            self.assertIsNot(one, other)

    def test_of_two_nets_neither_knows_of_the_other(self):
        given = {"clk": "1", "d": "0011", "q": "0101", "n": "x"}
        one = Net(Design(SIGNALS, BLOCKS))
        first = (one.gates(), one.signs(given))
        other = Net(Design(full_signals(), full_blocks()))
        other.signs({row[1]: "x" * row[2] for row in full_signals()})
        one.signs({"clk": "0", "d": "0000", "q": "0000", "n": "0"})
        self.assertEqual((one.gates(), one.signs(given)), first)

    def test_a_refusal_changes_nothing(self):
        net = Net(Design(SIGNALS, BLOCKS))
        first = net.gates()
        for asked in (net.outlet, net.sets):
            with self.assertRaises(NoName):
                asked("nobody")
            with self.assertRaises(NoName):
                asked("nobody")
        self.assertEqual(net.gates(), first)


if __name__ == "__main__":
    unittest.main()
