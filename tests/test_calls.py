"""Point [2] and the interface: how things are handed in and told."""

import inspect
import unittest

from deltawires import (
    bits, bodies, both, configurations, designs, designtexts, desk, errors, eventruns, histories, netruns, nets, orders,
    races, settling, tables, terms, termtexts, waves,
)
from designsamples import BLOCKS, SIGNALS, TEXT
from samples import values_of_width

SIGNATURES = {
    (bits, "is_value"): "(thing, *, width=0)",
    (bits, "read"): "(value)",
    (bits, "fillings"): "(value)",
    (bits, "number_of"): "(value)",
    (bits, "value_of"): "(number, *, width=8)",
    (bits, "covers"): "(one, other)",
    (bits, "mixed"): "(one, other)",
    (bits, "resolved"): "(values)",
    (tables, "operated"): "(word, values, *, high=0, low=0)",
    (terms, "is_name"): "(thing)",
    (terms, "is_term"): "(thing)",
    (terms, "width_of"): "(term, widths)",
    (terms, "names_in"): "(term)",
    (terms, "times_in"): "(term, name)",
    (terms, "value_of_term"): "(term, values)",
    (termtexts, "term_text"): "(term)",
    (termtexts, "read_term"): "(text)",
    (designtexts, "design_text"): "(design)",
    (designtexts, "read_design"): "(text)",
    (settling, "settled"): "(design, given)",
    (bodies, "body_done"): "(body, values)",
    (configurations, "begun"): "(design, values, changes=None)",
    (configurations, "doable"): "(design, configuration, *, rule='settled')",
    (configurations, "done"): "(design, configuration, thing)",
    (races, "races"): "(design, *, rule='settled')",
    (orders, "ends"): "(design, configuration, *, rule='settled', most=400)",
    (orders, "is_alike"): "(design, paper, *, rule='settled')",
    (orders, "ended"): "(design, configuration, things)",
    (waves, "is_wave"): "(thing)",
    (waves, "value_at"): "(wave, time)",
    (waves, "held"): "(wave, least)",
    (histories, "wave_of"): "(run, name)",
    (histories, "waves_text"): "(waves)",
    (histories, "read_waves"): "(text)",
}
CLASSES = {
    (designs, "Design"): {
        "__init__": "(self, signals, blocks=())",
        "signals": "(self)",
        "blocks": "(self)",
        "names": "(self, *, sort='')",
        "sort_of": "(self, name)",
        "width_of_signal": "(self, name)",
        "what_of": "(self, name)",
        "origins": "(self, name)",
        "is_chain": "(self, name)",
    },
    (nets, "Net"): {
        "__init__": "(self, design)",
        "gates": "(self)",
        "outlet": "(self, name)",
        "sets": "(self, block)",
        "signs": "(self, given)",
    },
    (netruns, "NetRun"): {
        "__init__": "(self, design)",
        "moment": "(self, changes=None, *, deltas=40)",
        "value": "(self, name)",
        "all_values": "(self)",
        "moments": "(self)",
        "is_clear": "(self)",
        "copied": "(self)",
    },
    (eventruns, "EventRun"): {
        "__init__": "(self, design, *, rule='settled')",
        "moment": "(self, changes=None, *, order=(), deltas=40, things=5000, watch=None)",
        "value": "(self, name)",
        "all_values": "(self)",
        "moments": "(self)",
        "is_busy": "(self)",
        "done_last": "(self)",
        "story": "(self)",
        "book": "(self)",
        "copied": "(self)",
    },
    (both, "Both"): {
        "__init__": "(self, design, *, rule='settled')",
        "moment": "(self, changes=None, *, order=())",
        "all_values": "(self)",
        "net_run": "(self)",
        "event_run": "(self)",
        "copied": "(self)",
    },
    (desk, "Desk"): {
        "__init__": "(self, design, *, rule='settled')",
        "say": "(self, row)",
    },
}
NUMBERS = {
    (bits, "WIDEST"): 8,
    (netruns, "DELTAS"): 40,
    (eventruns, "THINGS"): 5000,
    (orders, "MOST"): 400,
}

DESIGN = designs.Design(SIGNALS, BLOCKS)
GIVEN = {"clk": "0", "d": "0000", "q": "0000", "n": "0"}
VALUES = settling.settled(DESIGN, GIVEN)
HERE = configurations.begun(DESIGN, VALUES, {"clk": "1"})
TERM = ("plus", ("of", "a"), ("is", "01"))
WAVE = [(0, "x"), (3, "1")]

# What stands ahead of each star, by the names that the interface gives.
HANDED = {
    "is_value": {"thing": "01"},
    "read": {"value": "z1"},
    "fillings": {"value": "x1"},
    "number_of": {"value": "11"},
    "value_of": {"number": 3},
    "covers": {"one": "0x", "other": "01"},
    "mixed": {"one": "11", "other": "01"},
    "resolved": {"values": ["z1", "0z"]},
    "operated": {"word": "plus", "values": ["01", "01"]},
    "is_name": {"thing": "a"},
    "is_term": {"thing": TERM},
    "width_of": {"term": TERM, "widths": {"a": 2}},
    "names_in": {"term": TERM},
    "times_in": {"term": TERM, "name": "a"},
    "value_of_term": {"term": TERM, "values": {"a": "01"}},
    "term_text": {"term": TERM},
    "read_term": {"text": "plus(a, '01)"},
    "design_text": {"design": DESIGN},
    "read_design": {"text": TEXT},
    "settled": {"design": DESIGN, "given": GIVEN},
    "body_done": {"body": BLOCKS[0][3], "values": VALUES},
    "begun": {"design": DESIGN, "values": VALUES, "changes": {"clk": "1"}},
    "doable": {"design": DESIGN, "configuration": HERE},
    "done": {"design": DESIGN, "configuration": HERE, "thing": "up"},
    "races": {"design": DESIGN},
    "ends": {"design": DESIGN, "configuration": HERE},
    "is_alike": {"design": DESIGN, "paper": [HERE]},
    "ended": {"design": DESIGN, "configuration": HERE, "things": ["up", "b"]},
    "is_wave": {"thing": WAVE},
    "value_at": {"wave": WAVE, "time": 3},
    "held": {"wave": WAVE, "least": 2},
    "wave_of": {"run": eventruns.EventRun(DESIGN), "name": "clk"},
    "waves_text": {"waves": {"a": WAVE}},
    "read_waves": {"text": "at 0\na x\nat 3\na 1\n"},
}
HANDED_TO_METHODS = {
    "sort_of": {"name": "w"},
    "width_of_signal": {"name": "w"},
    "what_of": {"name": "w"},
    "origins": {"name": "w"},
    "is_chain": {"name": "w"},
    "outlet": {"name": "w"},
    "sets": {"block": "up"},
    "signs": {"given": GIVEN},
    "moment": {"changes": {"clk": "0"}},
    "value": {"name": "w"},
    "say": {"row": "set clk 1"},
}
OBJECTS = ("copied", "net_run", "event_run")


def shown(told):
    """What is told, of runs what these tell."""
    return told.all_values() if hasattr(told, "all_values") else told


def ahead_of_star(function):
    return [name for name, parameter in inspect.signature(function).parameters.items()
            if parameter.kind == parameter.POSITIONAL_OR_KEYWORD and name != "self"]


class Interface(unittest.TestCase):
    def test_each_function_has_the_arguments_told_and_stands_in_its_file(self):
        for (module, name), expected in SIGNATURES.items():
            with self.subTest(name):
                function = getattr(module, name)
                self.assertTrue(inspect.isfunction(function))
                self.assertEqual(str(inspect.signature(function)), expected)
                self.assertEqual(function.__module__, module.__name__)

    def test_each_class_has_its_methods_in_itself_and_stands_in_its_file(self):
        for (module, name), methods in CLASSES.items():
            made = getattr(module, name)
            self.assertTrue(inspect.isclass(made))
            self.assertEqual(made.__module__, module.__name__)
            for method, expected in methods.items():
                with self.subTest(name=name, method=method):
                    self.assertIn(method, vars(made))
                    self.assertEqual(str(inspect.signature(vars(made)[method])), expected)

    def test_numbers(self):
        for (module, name), expected in NUMBERS.items():
            self.assertEqual(getattr(module, name), expected)
        self.assertEqual((configurations.SETTLED, configurations.FREE), ("settled", "free"))

    def test_each_function_by_names_and_by_places(self):
        for module, name in SIGNATURES:
            function, handed = getattr(module, name), HANDED[name]
            with self.subTest(name):
                self.assertEqual(list(handed), ahead_of_star(function))
                by_names = function(**dict(reversed(list(handed.items()))))
                self.assertEqual(by_names, function(*handed.values()))

    def test_each_method_by_names_and_by_places(self):
        for (module, name), methods in CLASSES.items():
            made = getattr(module, name)
            first = {"signals": SIGNALS, "blocks": BLOCKS} if name == "Design" else {"design": DESIGN}
            self.assertEqual(list(first), ahead_of_star(made.__init__))
            for method in methods:
                if method == "__init__":
                    continue
                handed = HANDED_TO_METHODS.get(method, {})
                with self.subTest(name=name, method=method):
                    self.assertEqual(list(handed), ahead_of_star(vars(made)[method]))
                    by_names = getattr(made(**first), method)(**handed)
                    by_places = getattr(made(*first.values()), method)(*handed.values())
                    self.assertEqual(shown(by_names), shown(by_places))
                    self.assertEqual(hasattr(by_names, "all_values"), method in OBJECTS)

    def test_told_lists_and_dicts_are_no_two_of_them_one(self):
        for name, handed in HANDED.items():
            function = [getattr(module, name) for module, other in SIGNATURES if other == name][0]
            told, again = function(**handed), function(**handed)
            if isinstance(told, (list, dict)):
                self.assertIsNot(told, again, name)
                kept = type(told)(told)
                told.clear()
                self.assertEqual(function(**handed), kept, name)
        for (module, name), methods in CLASSES.items():
            made = getattr(module, name)(SIGNALS, BLOCKS) if name == "Design" else getattr(module, name)(DESIGN)
            for method in methods:
                handed = HANDED_TO_METHODS.get(method, {})
                if method in ("__init__", "moment", "say"):
                    continue
                told = getattr(made, method)(**handed)
                if isinstance(told, (list, dict)):
                    kept = type(told)(told)
                    told.clear()
                    self.assertEqual(getattr(made, method)(**handed), kept, (name, method))

    def test_terms_and_designs_by_the_names_told(self):
        self.assertIs(terms.is_name(thing="a"), True)
        self.assertIs(terms.is_term(thing=("of", "a")), True)
        self.assertEqual(terms.width_of(widths={"a": 2}, term=("of", "a")), 2)
        self.assertEqual(terms.names_in(term=("of", "a")), ["a"])
        self.assertEqual(terms.times_in(name="a", term=("of", "a")), 1)
        self.assertEqual(terms.value_of_term(values={"a": "z"}, term=("of", "a")), "x")
        self.assertEqual(termtexts.term_text(term=("of", "a")), "a")
        self.assertEqual(termtexts.read_term(text="a"), ("of", "a"))
        design = designs.Design(blocks=BLOCKS, signals=SIGNALS)
        self.assertEqual(design.names(sort="wire"), ["w"])
        self.assertEqual(design.sort_of(name="w"), "wire")
        self.assertEqual(design.width_of_signal(name="w"), 4)
        self.assertEqual(design.what_of(name="q"), "00x1")
        self.assertEqual(design.origins(name="w"), ["d", "q"])
        self.assertIs(design.is_chain(name="w"), False)
        self.assertEqual(designtexts.design_text(design=design), TEXT)
        self.assertEqual(designtexts.read_design(text=TEXT), design)

    def test_runs_and_nets_by_the_names_told(self):
        design = designs.Design(SIGNALS, BLOCKS)
        given = {"clk": "0", "d": "0000", "q": "0000", "n": "0"}
        values = settling.settled(given=given, design=design)
        self.assertEqual(bodies.body_done(values=values, body=()), ({}, {}))
        net = nets.Net(design=design)
        self.assertEqual(net.outlet(name="w"), net.outlet("w"))
        self.assertEqual(net.sets(block="up"), net.sets("up"))
        self.assertEqual(net.signs(given=given), net.signs(given))
        run = netruns.NetRun(design=design)
        self.assertEqual(run.moment(deltas=3, changes={"clk": "0"}), 0)
        self.assertEqual(run.value(name="clk"), "0")

    def test_events_and_orders_by_the_names_told(self):
        design = designs.Design(SIGNALS, BLOCKS)
        values = netruns.NetRun(design).all_values()
        here = configurations.begun(changes={"d": "0000"}, values=values, design=design)
        self.assertEqual(here[1:], (("w", "b"), (), ()))
        self.assertEqual(configurations.doable(configuration=here, design=design), ["w", "b"])
        there = configurations.done(thing="w", configuration=here, design=design)
        self.assertEqual(there[1], ("b",))
        self.assertEqual(orders.ended(things=["w"], configuration=here, design=design), there)
        self.assertEqual(races.races(design=design)[0][0], "twice")
        told = orders.ends(configuration=here, design=design)
        self.assertEqual(told[0], "alike")
        self.assertIs(orders.is_alike(paper=told[2], design=design), True)
        run = eventruns.EventRun(design=design)
        self.assertEqual(run.moment(changes={"clk": "0"}), 0)
        self.assertEqual(run.value(name="clk"), "0")

    def test_by_the_names_told(self):
        self.assertIs(bits.is_value(thing="01", width=2), True)
        self.assertEqual(bits.read(value="z1"), "x1")
        self.assertEqual(bits.fillings(value="x1"), ["01", "11"])
        self.assertEqual(bits.number_of(value="11"), 3)
        self.assertEqual(bits.value_of(width=3, number=3), "011")
        self.assertIs(bits.covers(other="01", one="0x"), True)
        self.assertEqual(bits.mixed(other="01", one="11"), "x1")
        self.assertEqual(bits.resolved(values=["z1", "0z"]), "01")
        self.assertEqual(tables.operated(values=["0101"], word="part", low=1, high=2), "10")

    def test_behind_a_star_by_name_alone(self):
        with self.assertRaises(TypeError):
            bits.is_value("01", 2)
        with self.assertRaises(TypeError):
            bits.value_of(3, 3)
        with self.assertRaises(TypeError):
            tables.operated("part", ["0101"], 2, 1)


class HandedIn(unittest.TestCase):
    def test_lists_are_not_changed(self):
        values = ["0z1x", "zz1z", "0zxz"]
        bits.resolved(values)
        self.assertEqual(values, ["0z1x", "zz1z", "0zxz"])
        cases = (
            ("not", ["z1"]), ("and", ["z1", "xz"]), ("or", ["z1", "xz"]), ("xor", ["z1", "xz"]),
            ("plus", ["z1", "xz"]), ("same", ["z1", "xz"]), ("less", ["z1", "xz"]), ("any", ["z1"]),
            ("all", ["z1"]), ("pick", ["z", "z1", "xz"]), ("join", ["z1", "xz"]), ("part", ["z1"]),
        )
        for word, handed in cases:
            kept = list(handed)
            tables.operated(word, handed)
            self.assertEqual(handed, kept, word)

    def test_what_is_done_later_to_a_list_handed_in_has_no_bearing(self):
        values = ["0z", "zz"]
        first = bits.resolved(values)
        values[0] = "11"
        values.append("zz")
        self.assertEqual(first, "0z")
        self.assertEqual(bits.resolved(["0z", "zz"]), "0z")
        self.assertEqual(bits.resolved(values), "11")


class Told(unittest.TestCase):
    def test_a_told_list_that_is_changed_changes_no_later_answer(self):
        told = bits.fillings("x0")
        told.append("11")
        told[0] = "zz"
        self.assertEqual(bits.fillings("x0"), ["00", "10"])
        bits.fillings("x0").clear()
        self.assertEqual(bits.fillings("x0"), ["00", "10"])

    def test_no_two_told_lists_are_one(self):
        for value in ("0", "1", "x", "x0", "xxxxxxxx"):
            self.assertIsNot(bits.fillings(value), bits.fillings(value))

    def test_asked_again_and_of_something_else_between(self):
        values = values_of_width(2)

        def all_answers(pairs):
            return {
                (one, other): (
                    bits.read(one), bits.fillings(one), bits.covers(one, other), bits.mixed(one, other),
                    bits.resolved([one, other]), bits.is_value(one),
                    [tables.operated(word, [one, other]) for word in ("and", "plus", "less", "join")],
                )
                for one, other in pairs
            }

        pairs = [(one, other) for one in values for other in values]
        self.assertEqual(all_answers(pairs), all_answers(list(reversed(pairs))))

    def test_a_refusal_between_changes_nothing(self):
        self.assertEqual(bits.value_of(3, width=2), "11")
        with self.assertRaises(errors.NoValue):
            bits.value_of(4, width=2)
        with self.assertRaises(errors.NoNumber):
            bits.number_of("1x")
        self.assertEqual(bits.value_of(3, width=2), "11")
        self.assertEqual(bits.number_of("11"), 3)

    def test_truths_are_true_or_false(self):
        for thing in ("", "0", "012", "000000000", None, [], 0, 1, {}):
            for width in range(9):
                self.assertIs(type(bits.is_value(thing, width=width)), bool)
        for one in values_of_width(2):
            for other in values_of_width(2):
                self.assertIs(type(bits.covers(one, other)), bool)

    def test_true_and_false_are_no_whole_numbers(self):
        for width in range(1, 9):
            for truth in (True, False):
                with self.assertRaises(errors.NoValue):
                    bits.value_of(truth, width=width)

    def test_kinds_of_what_is_told(self):
        self.assertIs(type(bits.read("z")), str)
        self.assertIs(type(bits.fillings("z")), list)
        self.assertIs(type(bits.number_of("1")), int)
        self.assertIs(type(bits.value_of(1)), str)
        self.assertIs(type(bits.mixed("z", "1")), str)
        self.assertIs(type(bits.resolved(["z"])), str)
        self.assertIs(type(tables.operated("not", ["z"])), str)


if __name__ == "__main__":
    unittest.main()
