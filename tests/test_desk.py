"""Point [26]: a desk, row by row; and what [4] promises, by a desk against the runs by themselves."""

import re
import unittest

from deltawires.both import Both
from deltawires.configurations import begun
from deltawires.designs import Design
from deltawires.designtexts import design_text, read_design
from deltawires.desk import Desk
from deltawires.errors import NoName, NoRow, NoValue, TooMany
from deltawires.histories import wave_of
from deltawires.orders import ends
from deltawires.races import races
from designsamples import A, BLOCKS, K, ONE, Q, SIGNALS, TEXT, ZERO, full_blocks, full_signals
from eventdrawing import drawn_any, drawn_calm, drawn_put
from samples import NO_TEXTS, source_of
from test_both import glitching, kept, long_way, seeing, shift, swinging

RULES = ("settled", "free")
A_NAME_ALONE = ("show", "wave")


def inputs(**widths):
    return [("input", name, width, None) for name, width in widths.items()]


def told(desk, *rows):
    return [desk.say(row) for row in rows]


def risen(design, **more):
    """A desk with all inputs put in as 0."""
    desk = Desk(design, **more)
    for name in design.names(sort="input"):
        desk.say(f"set {name} {'0' * design.width_of_signal(name)}")
    desk.say("go")
    return desk


def state(desk, design):
    """All that a desk tells without going on."""
    return told(desk, "all", "races", "ends", "text", *[f"wave {name}" for name in design.names()])


def racing():
    """Four blocks that one edge wakes: the net has what the last one sets."""
    blocks = [(f"b{at}", "rise", "a", (("now", "q", ("is", format(at, "02b"))),)) for at in range(4)]
    return Design(inputs(a=1) + kept(q="00"), blocks)


class Rows(unittest.TestCase):
    def test_set_and_go(self):
        desk = Desk(shift())
        self.assertEqual(told(desk, "set a 0", "go", "set a 1", "go", "all"),
                         ["ok", "alike 0", "ok", "alike 1", "a=1 k=1 q=0"])

    def test_go_without_anything_set(self):
        self.assertEqual(told(Desk(shift()), "go", "go", "all"), ["alike 0", "alike 0", "a=x k=0 q=0"])

    def test_the_later_counts_for_one_input(self):
        desk = Desk(Design(inputs(a=1, b=2)))
        self.assertEqual(told(desk, "set a 0", "set b 01", "set a 1", "set b x1", "set a x", "set a 0", "go", "all"),
                         ["ok"] * 6 + ["alike 0", "a=0 b=x1"])

    def test_set_alone_changes_no_value(self):
        desk = Desk(shift())
        self.assertEqual(told(desk, "set a 1", "show a", "all", "wave a"), ["ok", "x", "a=x k=0 q=0", "0:x"])

    def test_where_it_is_alike_nothing_is_set_any_more(self):
        desk = Desk(Design(inputs(a=1, b=1)))
        self.assertEqual(told(desk, "set a 1", "go", "set b 1", "go", "back", "back", "go", "all"),
                         ["ok", "alike 0", "ok", "alike 0", "ok", "ok", "alike 0", "a=x b=x"])

    def test_else_all_stays_set(self):
        desk = risen(seeing())
        self.assertEqual(told(desk, "set a 1", "go", "go 0", "all", "go 1", "all"),
                         ["ok", "apart q", "apart q", "a=0 k=0 q=0", "alike 0", "a=1 k=1 q=0"])
        desk = risen(swinging())
        self.assertEqual(told(desk, "set a 1", "go", "go", "set a x", "go", "all"),
                         ["ok", "unending both", "unending both", "ok", "alike 0", "a=x k=0"])

    def test_answers_of_go(self):
        turn = (("later", "k", ("not", K)),)
        events = glitching(("go1", "rise", "w", turn), ("up", "rise", "k", turn), ("down", "fall", "k", turn), k="0")
        none = glitching(("one", "rise", "w", (("later", "q", ONE),)), ("two", "rise", "q", (("later", "q", ZERO),)),
                         q="0")
        wide = Design([("wire", "w", 1, ("not", Q))] + inputs(a=1) + kept(q="0", k="0") + [("filter", "f", 1, Q)],
                      seeing().blocks())
        for design, row, expected in (
            (swinging(), "go", "unending both"), (long_way(42), "go", "unending net"), (events, "go 1", "unending events"),
            (none, "go 1", "apart"), (seeing(), "go", "apart q"), (wide, "go", "apart w q f"), (seeing(), "go 1", "alike 0"),
            (shift(), "go", "alike 1"),
        ):
            desk = risen(design)
            self.assertEqual(told(desk, "set a 1", row), ["ok", expected])

    def test_orders(self):
        """The net has what b3 sets, so it is alike where b3 comes last."""
        for row, expected in (
            ("go", "alike 0"), ("go 0 0 0", "alike 0"), ("go 3", "apart q"), ("go -1", "apart q"), ("go 2 1", "alike 0"),
            ("go 2 2", "apart q"), ("go -2 -2", "alike 0"), ("go 4 3 2 9 9", "alike 0"), ("go 7", "apart q"),
            ("go -5", "apart q"), ("go -4 -3 -2", "alike 0"), ("go 0 0 1", "apart q"),
        ):
            self.assertEqual(told(risen(racing()), "set a 1", row), ["ok", expected], row)

    def test_orders_of_numbers_with_thousands_of_figures(self):
        for many in (59, 60, 61, 120, 4299, 4300, 4301, 5900):
            nines = "9" * many
            for row, number in ((f"go {nines}", 10 ** many - 1), (f"go -{nines}", 1 - 10 ** many),
                                (f"go 1{'0' * many}", 10 ** many), (f"go {nines[:-1]}7", 10 ** many - 3),
                                (f"go -1{'0' * (many - 1)}1", -10 ** many - 1)):
                expected = Both(racing())
                expected.moment({"a": "0"})
                answer = expected.moment({"a": "1"}, order=[number])
                self.assertEqual(told(risen(racing()), "set a 1", row),
                                 ["ok", "alike 0" if answer[0] == "alike" else "apart q"], row[:9])
        self.assertEqual(told(risen(racing()), "set a 1", f"go {'9' * 5000}"), ["ok", "apart q"])
        self.assertEqual(told(risen(racing()), "set a 1", f"go {'9' * 4999}6"), ["ok", "alike 0"])
        self.assertEqual(told(risen(racing()), "set a 1", "go " + " ".join(["-" + "9" * 1400 + "2"] * 4)),
                         ["ok", "alike 0"])

    def test_each_figure_of_a_number_counts(self):
        """A wire and six blocks are doable: where a number leads hangs on all its figures."""
        blocks = [(f"b{at}", "rise", "a", (("now", "q", ("is", format(at, "03b"))),)) for at in range(6)]
        design = Design(inputs(a=1) + [("wire", "w", 1, A)] + kept(q="000"), blocks)
        source = source_of("figures")
        seen = {}
        for many in [*range(1, 130, 3), *[source.randrange(4000, 5900) for _ in range(40)]]:
            figures = "".join([source.choice("123456789")] + [source.choice("0123456789") for _ in range(many - 1)])
            number = 0
            for figure in figures:
                number = number * 10 + int(figure)
            for sign, row in ((1, f"go {figures}"), (-1, f"go -{figures}")):
                expected = "apart q" if sign * number % 7 == 6 else "alike 0"
                self.assertEqual(told(risen(design, rule="free"), "set a 1", row), ["ok", expected], row[:9])
                seen[expected] = seen.get(expected, 0) + 1
        self.assertGreater(min(seen.values()), 5, seen)
        self.assertEqual(len(seen), 2)

    def test_show(self):
        desk = Desk(Design(SIGNALS, BLOCKS))
        both = Both(Design(SIGNALS, BLOCKS))
        for name, value in both.all_values().items():
            self.assertEqual(desk.say(f"show {name}"), value)
        self.assertEqual(told(desk, "set d 0011", "go", "show d", "show w"), ["ok", "alike 0", "0011", "01x0"])

    def test_all(self):
        self.assertEqual(Desk(Design(SIGNALS, BLOCKS)).say("all"), "clk=x d=xxxx w=xxxx f=x b=xxxx q=00x1 n=0")
        self.assertEqual(Desk(Design(inputs(a=1))).say("all"), "a=x")
        self.assertEqual(Desk(Design([])).say("all"), "")

    def test_z_is_shown(self):
        desk = Desk(Design(inputs(a=1) + [("bus", "b", 2, ((A, ("is", "01")), (ZERO, ("is", "11"))))]))
        self.assertEqual(told(desk, "set a 0", "go", "show b", "all", "wave b"),
                         ["ok", "alike 0", "zz", "a=0 b=zz", "0:xx 2:zz"])

    def test_races(self):
        self.assertEqual(Desk(shift()).say("races"), "none")
        self.assertEqual(Desk(seeing()).say("races"), "seen one two k")
        design = Design(SIGNALS, BLOCKS)
        for rule in RULES:
            words = [" ".join([word for word in race if word]) for race in races(design, rule=rule)]
            self.assertEqual(Desk(design, rule=rule).say("races"), "; ".join(words))
        self.assertEqual(Desk(glitching(("one", "rise", "w", ()), ("two", "fall", "w", ()))).say("races"),
                         "glitch one w; glitch two w")

    def test_ends(self):
        for design, expected in ((shift(), "alike"), (seeing(), "parted"), (swinging(), "endless"), (racing(), "parted")):
            desk = risen(design)
            self.assertEqual(told(desk, "ends", "set a 1", "ends", "ends", "set a x", "ends"),
                             ["alike", "ok", expected, expected, "ok", "alike"])
        wide = Design(inputs(a=1) + [("wire", f"w{at}", 1, A) for at in range(8)], [("blk", "rise", "a", ())])
        self.assertEqual(told(risen(wide, rule="free"), "set a 1", "ends"), ["ok", "many"])
        self.assertEqual(told(risen(wide), "set a 1", "ends"), ["ok", "alike"])

    def test_ends_is_of_what_is_set_and_changes_nothing(self):
        desk = risen(seeing())
        self.assertEqual(told(desk, "set a 1", "ends", "all", "go 1", "ends", "all"),
                         ["ok", "parted", "a=0 k=0 q=0", "alike 0", "alike", "a=1 k=1 q=0"])

    def test_ends_under_the_desks_rule(self):
        signals = inputs(a=1) + [("wire", "w", 1, A)] + kept(q="0")
        design = Design(signals, [("blk", "rise", "a", (("now", "q", ("of", "w")),))])
        for more, expected in (({}, "alike"), ({"rule": "settled"}, "alike"), ({"rule": "free"}, "parted")):
            self.assertEqual(told(risen(design, **more), "set a 1", "ends"), ["ok", expected])
        for more, expected in (({}, "alike 0"), ({"rule": "free"}, "apart q")):
            self.assertEqual(told(risen(design, **more), "set a 1", "go 1"), ["ok", expected])

    def test_wave(self):
        desk = risen(shift())
        self.assertEqual(told(desk, "wave a", "wave k"), ["0:x 1:0", "0:0"])
        self.assertEqual(told(desk, "set a 1", "go", "wave a", "wave k", "wave q"),
                         ["ok", "alike 1", "0:x 1:0 2:1", "0:0 5:1", "0:0"])

    def test_text(self):
        self.assertEqual(Desk(Design(SIGNALS, BLOCKS)).say("text"), TEXT)
        self.assertEqual(Desk(Design([])).say("text"), "")
        self.assertEqual(Desk(Design(full_signals(), full_blocks())).say("text"),
                         design_text(Design(full_signals(), full_blocks())))


class Back(unittest.TestCase):
    def test_more_often_than_there_were_moments(self):
        desk = Desk(shift())
        self.assertEqual(told(desk, "back", "back"), ["none", "none"])
        self.assertEqual(told(desk, "set a 0", "go", "set a 1", "go", "back", "all", "back", "all", "back", "back", "all"),
                         ["ok", "alike 0", "ok", "alike 1", "ok", "a=0 k=0 q=0", "ok", "a=x k=0 q=0", "none", "none",
                          "a=x k=0 q=0"])

    def test_in_all_that_the_runs_tell(self):
        design = shift()
        desk = Desk(design)
        states = [state(desk, design)]
        for value in "010101":
            told(desk, f"set a {value}", "go 1")
            states.append(state(desk, design))
        for expected in states[-2::-1]:
            self.assertEqual(desk.say("back"), "ok")
            self.assertEqual(state(desk, design), expected)
        self.assertEqual(desk.say("back"), "none")
        self.assertEqual(state(desk, design), states[0])

    def test_on_and_back_and_on(self):
        desk, fresh = risen(shift()), risen(shift())
        told(desk, "set a 1", "go", "set a 0", "go", "back", "back", "set a x", "go", "back")
        for row in ("set a 1", "go 1", "all", "wave k", "wave a", "back", "all", "wave k", "back", "all", "back"):
            self.assertEqual(desk.say(row), fresh.say(row), row)

    def test_what_is_set_stays(self):
        desk = risen(shift())
        self.assertEqual(told(desk, "set a 1", "go", "set a 0", "back", "go", "all"),
                         ["ok", "alike 1", "ok", "ok", "alike 0", "a=0 k=0 q=0"])
        desk = risen(shift())
        self.assertEqual(told(desk, "set a 1", "back", "back", "go", "all"), ["ok", "ok", "none", "alike 0", "a=1 k=0 q=0"])

    def test_what_was_set_for_the_moment_taken_back_is_not_set_again(self):
        desk = risen(shift())
        self.assertEqual(told(desk, "set a 1", "go", "back", "go", "all"),
                         ["ok", "alike 1", "ok", "alike 0", "a=0 k=0 q=0"])

    def test_moments_that_were_not_alike_are_none(self):
        desk = risen(seeing())
        self.assertEqual(told(desk, "set a 1", "go", "go", "back", "back", "all"),
                         ["ok", "apart q", "apart q", "ok", "none", "a=x k=0 q=0"])
        desk = risen(swinging())
        self.assertEqual(told(desk, "set a 1", "go", "back", "back"), ["ok", "unending both", "ok", "none"])

    def test_moments_without_changes_count(self):
        desk = risen(shift())
        self.assertEqual(told(desk, "go", "go", "back", "back", "back", "back"), ["alike 0"] * 2 + ["ok"] * 3 + ["none"])

    def test_answers_that_change_nothing_are_not_taken_back(self):
        desk = risen(shift())
        told(desk, "all", "show a", "ends", "races", "text", "wave a")
        self.assertEqual(told(desk, "back", "all", "back"), ["ok", "a=x k=0 q=0", "none"])


class Refusals(unittest.TestCase):
    def refused(self, kind, row, who=None):
        design = seeing()
        desk = risen(design)
        desk.say("set a 1")
        before = state(desk, design)
        with self.assertRaises(kind) as caught:
            desk.say(row)
        if who is not None:
            self.assertEqual(caught.exception.who, who)
        self.assertEqual(state(desk, design), before)
        self.assertEqual(told(desk, "go 1", "all", "back", "back", "back"),
                         ["alike 0", "a=1 k=1 q=0", "ok", "ok", "none"])

    def test_other_things_than_texts(self):
        for thing in [*NO_TEXTS, ["go"], ("go",), b"go", {"go": 1}, [["all"]]]:
            self.refused(NoRow, thing)

    def test_no_row(self):
        for row in (
            "", " ", "  ", "\n", "set", "set a", "set a 1 1", "set  a 1", "set a  1", " set a 1", "set a 1 ", "Set a 1",
            "SET a 1", "set A 1", "set 1a 1", "set not 1", "set is 1", "set later 1", "set abcdefghi 1", "set a: 1",
            "show", "show a b", "show A", "show ", "show  a", " show a", "show a ", "show at", "show 1", "show a\n",
            "all a", "all ", " all", "All", "all all", "all\n", "back 1", "back ", "races free", "races ", "ends 1", "ends ",
            "wave", "wave a q", "wave A", "wave ", "wave filters", "text a", "text ", "texts", "help", "no row", "go ",
            "go  1", " go", "go 1 ", "go 01", "go -0", "go 00", "go +1", "go --1", "go -", "go 1-", "go 1.0", "go a",
            "go 1,2", "go 1_0", "go 0x1", "go 1e3", "go - 1", "go 1 -", "go 1 x", "go -01", "go 1\n", "go\n1", "\ngo",
            "GO", "g", "goo", "go1", "set\na\n1", "set a", "settle a 1", "a", "a=1", "'", "go 1 2 3 4 five",
            "go " + "0" * 5000, "go " + "9" * 5000 + "x", "go -" + "0" * 5000 + "1",
        ):
            self.refused(NoRow, row)

    def test_rows_spoilt_by_one_sign(self):
        desk = risen(seeing())
        for row in ("set a 1", "go 10 -2", "show q", "all", "back", "races", "ends", "wave k", "text"):
            for at in range(len(row) + 1):
                for spoilt in [row[:at] + sign + row[at:] for sign in " \n-xA0"] + [row[:at] + row[at + 1:]]:
                    words = spoilt.split(" ")
                    if self.is_row(words):
                        continue
                    with self.assertRaises(NoRow, msg=spoilt):
                        desk.say(spoilt)
        self.assertEqual(told(desk, "all", "back", "back"), ["a=0 k=0 q=0", "ok", "none"])

    def is_row(self, words):
        """Point [26], by words."""
        if "" in words:
            return False
        word, more = words[0], words[1:]
        names = [name for name in more[:1] if re.fullmatch("[a-z][a-z0-9]{0,7}", name)]
        if word == "go":
            return all(re.fullmatch("0|-?[1-9][0-9]*", number) for number in more)
        if word == "set":
            return len(more) == 2 and len(names) == 1
        if word in A_NAME_ALONE:
            return len(more) == 1 and len(names) == 1
        return word in ("all", "back", "races", "ends", "text") and not more

    def test_no_name(self):
        for who in ("nobody", "b", "one", "two", "x", "go", "set", "races", "a1"):
            for row in (f"set {who} 1", f"set {who} z", f"set {who} none", f"show {who}", f"wave {who}"):
                self.refused(NoName, row, who)
        for who in ("k", "q"):
            self.refused(NoName, f"set {who} 1", who)

    def test_no_value(self):
        for value in ("z", "00", "2", "10", "X", "a", "one", "-1", "=", "1,", "'1", "set", "0" * 300):
            self.refused(NoValue, f"set a {value}")

    def test_a_line_feed_is_a_sign_of_a_word(self):
        self.refused(NoValue, "set a 1\n")
        self.refused(NoName, "set nobody 1\n", "nobody")

    def test_no_row_ahead_of_no_name_and_that_ahead_of_no_value(self):
        self.refused(NoRow, "set nobody")
        self.refused(NoRow, "set nobody z z")
        self.refused(NoRow, "set nobody z ")
        self.refused(NoRow, "show nobody nobody")
        self.refused(NoRow, "wave nobody ")
        self.refused(NoName, "set nobody zz", "nobody")
        self.refused(NoName, "set q zz", "q")

    def test_a_refused_value_leaves_the_one_that_is_set(self):
        desk = Desk(Design(inputs(a=2)))
        desk.say("set a 01")
        for row in ("set a z1", "set a 1", "set b 01", "set a"):
            with self.assertRaises((NoValue, NoName, NoRow)):
                desk.say(row)
        self.assertEqual(told(desk, "go", "all"), ["alike 0", "a=01"])

    def test_wires_and_the_like_are_shown_but_not_set(self):
        desk = Desk(Design(SIGNALS, BLOCKS))
        for sort, name, width, _ in SIGNALS:
            told(desk, f"show {name}", f"wave {name}")
            if sort == "input":
                self.assertEqual(desk.say(f"set {name} {'x' * width}"), "ok")
            else:
                with self.assertRaises(NoName) as caught:
                    desk.say(f"set {name} {'x' * width}")
                self.assertEqual(caught.exception.who, name)


class ByThemselves(unittest.TestCase):
    def test_of_two_desks_neither_knows_of_the_other(self):
        design = shift()
        one, other = Desk(design), Desk(design)
        before = state(other, design)
        told(one, "set a 0", "go", "set a 1", "go")
        self.assertEqual(state(other, design), before)
        self.assertEqual(told(other, "back", "go", "all"), ["none", "alike 0", "a=x k=0 q=0"])
        self.assertEqual(told(one, "all", "back", "all"), ["a=1 k=1 q=0", "ok", "a=0 k=0 q=0"])

    def test_asked_again_the_same_is_told(self):
        design = Design(SIGNALS, BLOCKS)
        desk = risen(design)
        self.assertEqual(state(desk, design), state(desk, design))

    def test_kinds(self):
        desk = risen(shift())
        for row in ("set a 1", "go", "show a", "all", "back", "races", "ends", "wave a", "text"):
            self.assertIs(type(desk.say(row)), str)
        with self.assertRaises(TypeError):
            Desk(shift(), "free")


def words_of(answer):
    """What a Both tells, as a desk does."""
    parts = answer[1] if answer[0] == "apart" else [str(answer[1])]
    return " ".join([answer[0], *parts])


class AgainstTheRuns(unittest.TestCase):
    def go_on(self, source, signals, desk, both, wanted, at):
        """One moment, set row by row, of the desk and of both runs."""
        changes = {**drawn_put(source, signals, source.choice(["01", "01x"])), "i0": "01"[at % 2]}
        for name, value in changes.items():
            self.assertEqual(desk.say(f"set {name} {value}"), "ok")
        wanted.update(changes)
        numbers = [source.choice([0, 1, 2, -1, -7, 10 ** 70]) for _ in range(source.choice([0, 2, 9]))]
        answer = both.moment(wanted, order=numbers)
        self.assertEqual(desk.say(" ".join(["go", *[str(number) for number in numbers]])), words_of(answer))
        if answer[0] == "alike":
            wanted.clear()
        return answer[0]

    def check(self, design, rule, desk, both, wanted):
        values = both.all_values()
        self.assertEqual(desk.say("all"), " ".join([f"{name}={value}" for name, value in values.items()]))
        for name in values:
            self.assertEqual(desk.say(f"show {name}"), values[name])
            wave = " ".join([f"{time}:{value}" for time, value in wave_of(both.event_run(), name)])
            self.assertEqual(desk.say(f"wave {name}"), wave)
        try:
            word = ends(design, begun(design, values, wanted), rule=rule)[0]
        except TooMany:
            word = "many"
        self.assertEqual(desk.say("ends"), word)

    def test_drawn(self):
        source = source_of("desks")
        seen = {"alike": 0, "apart": 0, "unending": 0, "back": 0}
        for _ in range(90):
            signals, blocks = drawn_any(source)
            design, rule = Design(signals, blocks), source.choice(RULES)
            desk, both, wanted, past = Desk(design, rule=rule), Both(design, rule=rule), {}, []
            for at in range(8):
                if source.random() < 0.2:
                    self.assertEqual(desk.say("back"), "ok" if past else "none")
                    seen["back"] += bool(past)
                    both = past.pop() if past else both
                else:
                    ahead = both.copied()
                    word = self.go_on(source, signals, desk, both, wanted, at)
                    seen[word] += 1
                    past += [ahead] if word == "alike" else []
                self.check(design, rule, desk, both, wanted)
        self.assertGreater(min(seen.values()), 8, seen)

    def test_a_design_read_back_from_its_text_runs_alike(self):
        source = source_of("desks of texts")
        for at in range(60):
            rule = source.choice(RULES)
            signals, blocks = drawn_any(source) if at % 2 else drawn_calm(source, rule)
            design = Design(signals, blocks)
            one = Desk(design, rule=rule)
            other = Desk(read_design(one.say("text")), rule=rule)
            for _ in range(5):
                rows = [f"set {name} {value}" for name, value in drawn_put(source, signals).items()]
                rows += ["ends", source.choice(["go", "go 1 2 1", "go -1 -1"]), "all", "races", "text"]
                rows += [f"wave {name}" for name in design.names()]
                self.assertEqual(told(one, *rows), told(other, *rows))

    def test_without_a_race(self):
        source = source_of("desks without a race")
        for rule in RULES:
            for _ in range(30):
                signals, blocks = drawn_calm(source, rule)
                desk = Desk(Design(signals, blocks), rule=rule)
                self.assertEqual(desk.say("races"), "none")
                for at in range(6):
                    for name, value in {**drawn_put(source, signals), "i0": "01"[at % 2]}.items():
                        desk.say(f"set {name} {value}")
                    before = desk.say("ends")
                    answer = desk.say(source.choice(["go", "go 1 0 1", "go -1 -2 -1 -2"]))
                    self.assertIn(answer.split(" ")[0], ("alike", "unending"))
                    if answer.startswith("alike"):
                        self.assertIn(before, ("alike", "many"))


if __name__ == "__main__":
    unittest.main()
