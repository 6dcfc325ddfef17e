"""Point [13], and what [4] says of a design's text."""

import unittest

from deltawires.designs import Design
from deltawires.designtexts import design_text, read_design
from deltawires.errors import NoText, WireError
from designsamples import (
    A, BLOCKS, ONE, SIGNALS, TEXT, ZERO, bus_row, full_blocks, full_body, full_signals, wire_row,
)
from drawing import drawn_blocks, drawn_signals, fan, nested
from samples import NO_TEXTS, source_of

BASE = [("input", "a", 1, None), ("kept", "k", 1, "0")]
BASE_TEXT = "input a 1\nkept k 1 0\n"


def with_body(*statements):
    return Design(BASE, [("blk", "rise", "a", statements)])


class Written(unittest.TestCase):
    def check(self, design, text):
        self.assertEqual(design_text(design), text)
        self.assertEqual(read_design(text), design)
        self.assertIs(type(read_design(text)), Design)

    def test_all_sorts_and_statements(self):
        self.check(Design(SIGNALS, BLOCKS), TEXT)

    def test_nothing(self):
        self.check(Design([]), "")

    def test_signals_alone(self):
        self.check(Design([("input", "a", 8, None)]), "input a 8\n")
        self.check(Design([("kept", "k", 8, "01x01x01")]), "kept k 8 01x01x01\n")
        self.check(Design([("wire", "w", 2, ("is", "x1"))]), "wire w 2 'x1\n")
        self.check(Design([("filter", "f", 1, ("part", ("is", "01"), 1, 1))]), "filter f 1 part('01, 1, 1)\n")
        self.check(Design(BASE), BASE_TEXT)

    def test_each_width(self):
        for width in range(1, 9):
            self.check(Design([("input", "a", width, None)]), f"input a {width}\n")
            self.check(Design([("kept", "k", width, "x" * width)]), f"kept k {width} {'x' * width}\n")

    def test_buses(self):
        drivers = ((A, ("of", "k")), (("not", A), ("is", "x")), (("and", A, ("of", "k")), ONE),
                   (ZERO, ("pick", A, ONE, ZERO)))
        texts = ("a: k", "not(a): 'x", "and(a, k): '1", "'0: pick(a, '1, '0)")
        for many in (2, 3, 4):
            for start in range(5 - many):
                design = Design(BASE + [("bus", "b", 1, drivers[start:start + many])])
                self.check(design, BASE_TEXT + "bus b 1 " + "; ".join(texts[start:start + many]) + "\n")

    def test_empty_bodies(self):
        self.check(with_body(), BASE_TEXT + "block blk rise a\n")
        self.check(
            Design(BASE, [("p", "rise", "a", ()), ("q", "fall", "k", ())]),
            BASE_TEXT + "block p rise a\nblock q fall k\n",
        )

    def test_settings(self):
        self.check(with_body(("now", "k", A)), BASE_TEXT + "block blk rise a\n  now k a\n")
        self.check(
            with_body(("later", "k", ("not", A)), ("later", "k", ("is", "x"))),
            BASE_TEXT + "block blk rise a\n  later k not(a)\n  later k 'x\n",
        )

    def test_ifs(self):
        head = BASE_TEXT + "block blk rise a\n"
        setting = ("now", "k", A)
        self.check(with_body(("if", A, (), ())), head + "  if a\n  else\n")
        self.check(with_body(("if", A, (setting,), ())), head + "  if a\n    now k a\n  else\n")
        self.check(with_body(("if", A, (), (setting,))), head + "  if a\n  else\n    now k a\n")
        self.check(
            with_body(("if", A, (setting, setting), (setting,)), setting),
            head + "  if a\n    now k a\n    now k a\n  else\n    now k a\n  now k a\n",
        )

    def test_ifs_within_ifs(self):
        head = BASE_TEXT + "block blk rise a\n"
        setting = ("later", "k", A)
        self.check(
            with_body(("if", A, (("if", ONE, (), (setting,)),), ())),
            head + "  if a\n    if '1\n    else\n      later k a\n  else\n",
        )
        self.check(
            with_body(("if", A, (), (("if", ONE, (setting,), ()), setting))),
            head + "  if a\n  else\n    if '1\n      later k a\n    else\n    later k a\n",
        )
        self.check(
            with_body(("if", A, (), (("if", A, (("if", A, (), (("if", A, (), ()),)),), ()),)), ("if", A, (), ())),
            head + "  if a\n  else\n    if a\n      if a\n      else\n        if a\n        else\n    else\n"
            "  if a\n  else\n",
        )

    def test_names_that_are_words_of_the_text(self):
        names = ("block", "else", "if", "now", "kept", "input", "wire", "bus", "filter", "rise", "fall", "x", "later1")
        signals = [("kept", name, 1, "0") for name in names]
        body = tuple([("now", name, ("of", other)) for name, other in zip(names, names[::-1])])
        body += (("if", ("of", "else"), (), ()), ("if", ("of", "if"), (("now", "else", ("of", "now")),), ()))
        blocks = [("a", "rise", "block", body), ("b", "fall", "rise", ())]
        design = Design(signals, blocks)
        self.assertEqual(read_design(design_text(design)), design)
        self.assertIn("  if else\n  else\n  if if\n    now else now\n  else\nblock b fall rise\n", design_text(design))

    def test_order_of_the_lists(self):
        self.check(Design(BASE[::-1]), "kept k 1 0\ninput a 1\n")
        rows = [wire_row("w", "v"), wire_row("v", "a"), ("input", "a", 1, None)]
        self.check(Design(rows), "wire w 1 or(v, '0)\nwire v 1 or(a, '0)\ninput a 1\n")


class ThereAndBack(unittest.TestCase):
    def test_drawn(self):
        source = source_of("design texts")
        for _ in range(80):
            signals = drawn_signals(source, wires=source.randrange(0, 6), filters=source.randrange(0, 3))
            design = Design(signals, drawn_blocks(source, signals, source.randrange(0, 4)))
            again = read_design(design_text(design))
            self.assertEqual(again, design)
            self.assertEqual((again.signals(), again.blocks()), (design.signals(), design.blocks()))
            self.assertEqual(repr(again), repr(design))

    def test_all_that_there_may_be(self):
        design = Design(full_signals(), full_blocks())
        self.assertEqual(read_design(design_text(design)), design)
        great = Design([("input", "a", 1, None)] + [("wire", f"w{at}", 1, fan(60)) for at in range(3)] + [
            ("filter", "f", 1, nested(10)), bus_row("b", "a", "w1"),
        ])
        self.assertEqual(read_design(design_text(great)), great)

    def test_what_is_read_has_whole_numbers_and_none(self):
        design = read_design("input a 1\nwire w 1 part(a, 0, 0)\n")
        self.assertEqual([type(part) for part in design.signals()[0]], [str, str, int, type(None)])
        self.assertEqual([type(part) for part in design.what_of("w")], [str, tuple, int, int])


class Refused(unittest.TestCase):
    def refused(self, thing):
        with self.assertRaises(NoText, msg=repr(thing)[:300]):
            read_design(thing)

    def check_text(self, text):
        """A text is read just where a design is so written."""
        try:
            design = read_design(text)
        except NoText:
            return 0
        self.assertEqual(design_text(design), text)
        return 1

    def test_one_sign_put_in_taken_out_or_put_otherwise(self):
        read_ones = 0
        for at in range(len(TEXT) + 1):
            read_ones += self.check_text(TEXT[:at] + TEXT[at + 1:])
            for sign in " \nan18x';:":
                read_ones += self.check_text(TEXT[:at] + sign + TEXT[at:])
                read_ones += self.check_text(TEXT[:at] + sign + TEXT[at + 1:])
        self.assertGreater(read_ones, 100)

    def test_beginnings_and_ends_of_texts(self):
        for at in range(len(TEXT)):
            self.check_text(TEXT[:at])
            self.check_text(TEXT[at:])

    def test_signs_that_have_no_place(self):
        for at in range(len(TEXT) + 1):
            for sign in "\"_-A~!":
                self.refused(TEXT[:at] + sign + TEXT[at:])
            if TEXT[at:at + 1] in ("\n", " ", ",", "(", ")", ":", ";"):
                self.refused(TEXT[:at] + TEXT[at + 1:])
                self.refused(TEXT[:at] + TEXT[at] + TEXT[at:])

    def test_lines_taken_out_put_twice_or_turned_about(self):
        lines = TEXT.splitlines(keepends=True)
        for at in range(len(lines)):
            self.check_text("".join(lines[:at] + lines[at + 1:]))
            self.check_text("".join(lines[:at] + lines[at:at + 1] + lines[at:]))
            for other in range(at):
                turned = list(lines)
                turned[at], turned[other] = turned[other], turned[at]
                self.check_text("".join(turned))

    def test_ends(self):
        for text in (TEXT, BASE_TEXT, "input a 1\n"):
            for wrong in (text[:-1], text + "\n", "\n" + text, text + " ", " " + text, text + "  ", text + "  \n",
                          text + "\t",
                          text[:-1] + " \n", text.replace("\n", "\n\n"), text.replace("\n", " \n"),
                          text.replace("\n", " ")):
                self.refused(wrong)
        for text in ("\n", " ", "  ", "\n\n", "  \n", " \n "):
            self.refused(text)

    def test_signals(self):
        for line in (
            "input", "input a", "input a 0", "input a 9", "input a 10", "input a 01", "input a 1 ", "input a 1 None",
            "input a  1",
            "input  a 1", " input a 1", "input a x", "input a +1", "input A 1", "input not 1", "input 1",
            "input a 1 1", "Input a 1",
            "output a 1", "a 1", "input a 1, b 1", "input a 1; input b 1", "wire a 1", "wire a 1 ", "wire a 1 '",
            "wire a 1 0",
            "wire a 1 '00", "wire a 1 b", "wire a 1 a", "wire a 1 not('0", "wire a 1 not( '0)", "wire a 1  '0",
            "wire a 1 '0 '0",
            "filter a 1", "filter a 1 a", "filter a 1 '0; '1", "kept a 1", "kept a 1 ", "kept a 1 z", "kept a 1 '0",
            "kept a 1 00",
            "kept a 2 0", "kept a 1 0 0", "kept a 1 X", "kept a 1 None", "bus a 1", "bus a 1 ", "bus a 1 '0: '1",
            "bus a 1 '0; '1",
            "bus a 1 '0: '1;'0: '1", "bus a 1 '0:'1; '0: '1", "bus a 1 '0: '1; ", "bus a 1 '0: '1; '0",
            "bus a 1 '0: '1: '1",
            "bus a 1 '0: '1 ; '0: '1", "bus a 1 '0 : '1; '0: '1", "bus a 1 '00: '1; '0: '1", "bus a 1 '0: '11; '0: '1",
            "bus a 1 '0: '1; '0: '1; '0: '1; '0: '1; '0: '1", "bus a 1 '0: '1; '0: '1;", "bus a 1 ; '0: '1",
            "bus a 1 : ; : ",
            "input " + "a" * 6000 + " 1", "input a " + "1" * 5500, "kept a 1 " + "0" * 5500,
        ):
            self.refused(line + "\n")
            self.refused("input b 2\n" + line + "\n")

    def test_blocks(self):
        head = BASE_TEXT + "block blk rise a\n"
        self.assertEqual(design_text(read_design(head)), head)
        for text in (
            "block", "block blk", "block blk rise", "block blk rise a a", "block blk rise a ", "block  blk rise a",
            "block blk up a", "block blk rise b", "block a rise a", "block not rise a", "block BLK rise a",
            " block blk rise a",
            "  block blk rise a", "Block blk rise a", "blk rise a", "block blk rise a\nblock blk rise a",
            "block blk Rise a",
        ):
            self.refused(BASE_TEXT + text + "\n")
        for line in ("", "  ", "    ", "now k a", " now k a", "   now k a", "    now k a", "  now k", "  now k a a",
                     "  now k  a",
                     "  now  k a", "  now k a ", "  now a a", "  now b a", "  later k", "  Now k a", "  set k a",
                     "  k a",
                     "  now k '00", "  if", "  if a", "  else", "  if a\n    now k a", "  if a\n  now k a",
                     "  if\n  else",
                     "  if a\n    else", "  if a\nelse", "  if a\n  else\n  else", "  if a\n  else ", "  if a \n  else",
                     "  if  a\n  else", "  if a a\n  else", "  if a\n   else", "  if a\n   now k a\n  else",
                     "  if a\n      now k a\n  else", "  if a\n  else\n   now k a", "  if a\n  else\n      now k a",
                     "  if a\n  else now k a", "  if '00\n  else", "  now k a\n  later k a", "  now k a\n    now k a",
                     "  now k a\n\n  now k a", "  if a\n  else\n\n", "  if a\n    if a\n  else\n  else",
                     "  if a\n    if a\n    else\n    else", "  if a\n  elif a\n  else", "  if a\n  else\n    else",
                     "input c 1", "kept c 1 0", "  input c 1", "    else\n  if a\n  else"):
            self.refused(head + line + "\n")
        for line in ("  now k a", "  if a\n  else", "  if a\n  else\n    now k a"):
            self.assertEqual(design_text(read_design(head + line + "\n")), head + line + "\n")

    def test_signals_behind_blocks(self):
        self.refused("input a 1\nblock blk rise a\nkept k 1 0\n")
        self.refused("block blk rise a\ninput a 1\n")
        self.refused("  now k a\n" + BASE_TEXT)
        self.refused("input a 1\n  now k a\nkept k 1 0\n")

    def test_designs_with_a_clash(self):
        for text in (
            "input a 1\ninput a 1\n", "input a 1\nwire a 1 '0\n", "wire w 1 w\n", "wire w 1 v\nwire v 1 not(w)\n",
            "input a 1\nfilter f 1 a\nfilter g 1 f\n", "input a 2\nwire w 1 a\n", "input a 2\nblock b rise a\n",
            BASE_TEXT + "block b rise a\n  now k a\nblock c rise a\n  later k a\n",
            "".join([f"input i{at} 1\n" for at in range(25)]), "".join([f"wire w{at} 1 '0\n" for at in range(9)]),
            "input a 1\n" + "".join([f"block b{at} rise a\n" for at in range(7)]),
            BASE_TEXT + "block b rise a\n" + "  now k a\n" * 21,
            BASE_TEXT + "block b rise a\n" + "  if a\n  else\n" * 21,
        ):
            self.refused(text)

    def test_bounds_just_kept(self):
        for text in (
            "".join([f"input i{at} 1\n" for at in range(24)]), "".join([f"wire w{at} 1 '0\n" for at in range(8)]),
            "input a 1\n" + "".join([f"block b{at} rise a\n" for at in range(6)]),
            BASE_TEXT + "block b rise a\n" + "  now k a\n" * 20,
            BASE_TEXT + "block b rise a\n" + "  if a\n  else\n" * 20,
        ):
            self.assertEqual(design_text(read_design(text)), text)

    def nested_ifs(self, many):
        lines = [BASE_TEXT, "block b rise a\n"]
        lines += ["  " * at + "if a\n" for at in range(1, many + 1)]
        lines += ["  " * at + "else\n" for at in range(many, 0, -1)]
        return "".join(lines)

    def test_ifs_within_one_another(self):
        for many in range(1, 5):
            text = self.nested_ifs(many)
            self.assertEqual(design_text(read_design(text)), text)
        for many in (5, 6, 20, 40, 70, 400, 3000):
            self.refused(self.nested_ifs(many))

    def test_many_lines_and_brackets(self):
        for text in ("input a 1\n" * 500, "\n" * 6000, " " * 6000, "block b rise a\n" * 300, "  if a\n" * 800,
                     "wire w 1 " + "not(" * 1400 + "\n", "wire w 1 " + "(" * 5000 + "\n",
                     "bus b 1 " + "'0: '1; " * 700 + "\n",
                     "bus b 1 " + ": " * 2500 + "\n",
                     BASE_TEXT + "block b rise a\n  if " + "not(" * 1300 + "a" + ")" * 1300 + "\n  else\n",
                     "".join([f"input i{at} 1\n" for at in range(400)])):
            self.refused(text)

    def test_what_is_no_text(self):
        for thing in NO_TEXTS + [Design(SIGNALS, BLOCKS), [TEXT], (TEXT,), TEXT.encode(), TEXT.splitlines(), SIGNALS,
                                 {TEXT: TEXT}]:
            self.refused(thing)
        deep = TEXT
        for _ in range(39):
            deep = [deep]
        self.refused(deep)

    def test_its_class(self):
        with self.assertRaises(WireError):
            read_design("input")

    def test_a_refusal_between_changes_nothing(self):
        for _ in range(2):
            self.refused(TEXT + "x")
            self.assertEqual(read_design(TEXT), Design(SIGNALS, BLOCKS))
            self.assertEqual(design_text(Design(SIGNALS, BLOCKS)), TEXT)

    def test_each_body_of_a_full_one(self):
        text = design_text(Design(full_signals(), full_blocks()))
        self.assertEqual(read_design(text).blocks()[0][3], full_body())
        self.refused(text.replace("      else\n", ""))
        self.refused(text.replace("else", "otherwise"))


class Drawn(unittest.TestCase):
    def test_spoilt_in_one_place(self):
        source = source_of("spoilt designs")
        signs = [chr(number) for number in range(32, 127) if chr(number) != chr(37)] + ["\n"]
        for _ in range(25):
            signals = drawn_signals(source)
            text = design_text(Design(signals, drawn_blocks(source, signals, 2)))
            for _ in range(60):
                at = source.randrange(len(text) + 1)
                width = source.choice([0, 1, 1, 2])
                spoilt = text[:at] + "".join([source.choice(signs)
                                              for _ in range(source.randrange(2))]) + text[at + width:]
                try:
                    design = read_design(spoilt)
                except NoText:
                    continue
                self.assertEqual(design_text(design), spoilt)


if __name__ == "__main__":
    unittest.main()
