"""Point [24]: the waves of event runs, and waves as texts."""

import itertools
import unittest

from deltawires.designs import Design
from deltawires.errors import NoName, NoText, Unending
from deltawires.eventruns import EventRun
from deltawires.histories import read_waves, wave_of, waves_text
from deltawires.waves import is_wave, value_at
from designsamples import A, BLOCKS, K, SIGNALS
from eventdrawing import drawn_any, drawn_order, drawn_put
from samples import NO_TEXTS, source_of
from test_waves import drawn_wave

WAVES = {"q": [(0, "00"), (4, "01"), (12, "zz")], "a": [(0, "x"), (4, "1"), (5, "0")], "clk": [(0, "1")]}
TEXT = """at 0
a x
clk 1
q 00
at 4
a 1
q 01
at 5
a 0
at 12
q zz
"""


def swinging():
    setting = ("later", "k", ("not", K))
    return EventRun(Design(
        [("input", "a", 1, None), ("kept", "k", 1, "0"), ("wire", "w", 2, ("join", A, K))],
        [("go1", "rise", "a", (setting,)), ("up", "rise", "k", (setting,)), ("down", "fall", "k", (setting,))],
    ))


class Recorder:
    """Notes all values behind the beginning of a moment and behind each thing, as the document counts times."""

    def __init__(self, run):
        self.run = run
        self.values_at = [run.all_values()]

    def moment(self, changes, **more):
        ahead = self.run.all_values()
        times = []
        deltas = self.run.moment(changes, watch=lambda thing: times.append(self.run.all_values()), **more)
        self.values_at += [{**ahead, **changes}] + times
        return deltas


class Waves(unittest.TestCase):
    def test_of_a_fresh_run(self):
        run = EventRun(Design(SIGNALS, BLOCKS))
        for name, value in run.all_values().items():
            self.assertEqual(wave_of(run, name), [(0, value)])

    def test_times_of_moments_and_things(self):
        run = swinging()
        run.moment({"a": "0"})
        run.moment()
        run.moment({"a": "x"})
        self.assertEqual(wave_of(run, "a"), [(0, "x"), (1, "0"), (4, "x")])
        self.assertEqual(wave_of(run, "w"), [(0, "x0"), (2, "00"), (5, "x0")])
        self.assertEqual(wave_of(run, "k"), [(0, "0")])

    def test_refused_moments_leave_no_trace(self):
        run = swinging()
        run.moment({"a": "0"})
        before = [wave_of(run, name) for name in ("a", "k", "w")]
        with self.assertRaises(Unending):
            run.moment({"a": "1"})
        with self.assertRaises(ZeroDivisionError):
            run.moment({"a": "1"}, watch=lambda thing: 1 // 0)
        self.assertEqual([wave_of(run, name) for name in ("a", "k", "w")], before)
        run.moment({"a": "x"})
        self.assertEqual(wave_of(run, "a"), [(0, "x"), (1, "0"), (3, "x")])

    def test_amid_a_moment_as_ahead_of_it(self):
        run = swinging()
        run.moment({"a": "0"})
        before = [wave_of(run, name) for name in ("a", "k", "w")]
        seen = []
        with self.assertRaises(Unending):
            run.moment({"a": "1"}, deltas=2, watch=lambda thing: seen.append([wave_of(run, name) for name in "akw"]))
        self.assertGreater(len(seen), 4)
        for waves in seen:
            self.assertEqual(waves, before)

    def test_no_name(self):
        run = swinging()
        for who in ("", "nobody", "up", "A", "filters"):
            with self.assertRaises(NoName) as caught:
                wave_of(run, who)
            self.assertEqual(caught.exception.who, who)
        with self.assertRaises(NoName):
            wave_of(EventRun(Design([])), "a")

    def test_of_a_copy(self):
        run = swinging()
        run.moment({"a": "0"})
        twin = run.copied()
        run.moment({"a": "x"})
        self.assertEqual(wave_of(twin, "a"), [(0, "x"), (1, "0")])
        twin.moment({"a": "x"})
        self.assertEqual(wave_of(twin, "a"), wave_of(run, "a"))

    def test_told_lists_are_the_askers_own(self):
        run = swinging()
        wave_of(run, "a").append((1, "1"))
        self.assertEqual(wave_of(run, "a"), [(0, "x")])
        self.assertIsNot(wave_of(run, "a"), wave_of(run, "a"))

    def test_drawn(self):
        """At each time just the values that a watch saw then."""
        source = source_of("histories")
        refused = 0
        for _ in range(60):
            signals, blocks = drawn_any(source)
            recorder = Recorder(EventRun(Design(signals, blocks), rule=source.choice(["settled", "free"])))
            for _ in range(6):
                try:
                    recorder.moment(drawn_put(source, signals, "01x"), order=drawn_order(source), things=20, deltas=6)
                except Unending:
                    refused += 1
            for name in recorder.run.all_values():
                wave = wave_of(recorder.run, name)
                self.assertTrue(is_wave(wave))
                self.assertEqual([value_at(wave, time) for time in range(len(recorder.values_at))],
                                 [values[name] for values in recorder.values_at])
                self.assertLess(wave[-1][0], len(recorder.values_at))
        self.assertGreater(refused, 10)


class Texts(unittest.TestCase):
    def test_there_and_back(self):
        for names in itertools.permutations(WAVES):
            waves = {name: WAVES[name] for name in names}
            self.assertEqual(waves_text(waves), TEXT)
            self.assertEqual(waves, WAVES)
        self.assertEqual(read_waves(TEXT), WAVES)

    def test_of_none(self):
        self.assertEqual(waves_text({}), "")
        self.assertEqual(read_waves(""), {})
        self.assertIsNot(read_waves(""), read_waves(""))

    def test_of_one(self):
        self.assertEqual(waves_text({"a": [(0, "z")]}), "at 0\na z\n")
        self.assertEqual(read_waves("at 0\na z\n"), {"a": [(0, "z")]})

    def test_sorted_by_names(self):
        waves = {name: [(0, "0"), (7, "1")] for name in ("b", "a10", "a2", "z", "a", "ab")}
        self.assertEqual(waves_text(waves), "at 0\na 0\na10 0\na2 0\nab 0\nb 0\nz 0\nat 7\na 1\na10 1\na2 1\nab 1\nb 1\nz 1\n")

    def test_great_times(self):
        waves = {"a": [(0, "0"), (10 ** 60 - 1, "1")], "b": [(0, "x"), (10 ** 59, "z")]}
        text = f"at 0\na 0\nb x\nat {10 ** 59}\nb z\nat {10 ** 60 - 1}\na 1\n"
        self.assertEqual(waves_text(waves), text)
        self.assertEqual(read_waves(text), waves)

    def test_of_runs(self):
        source = source_of("histories' texts")
        for _ in range(30):
            signals, blocks = drawn_any(source)
            run = EventRun(Design(signals, blocks))
            for _ in range(4):
                try:
                    run.moment(drawn_put(source, signals), things=20)
                except Unending:
                    pass
            waves = {name: wave_of(run, name) for name in run.all_values()}
            self.assertEqual(read_waves(waves_text(waves)), waves)

    def test_drawn(self):
        source = source_of("wave texts")
        for _ in range(200):
            waves = {source.choice("abcdefg") + source.choice(["", "1", "x9"]): drawn_wave(source)
                     for _ in range(source.randrange(0, 5))}
            text = waves_text(waves)
            self.assertEqual(read_waves(text), waves)
            self.assertEqual(waves_text(read_waves(text)), text)

    def refused(self, text):
        with self.assertRaises(NoText):
            read_waves(text)

    def test_other_things(self):
        for thing in [*NO_TEXTS, WAVES, [TEXT], TEXT.encode()]:
            self.refused(thing)

    def test_texts_that_are_not_so_written(self):
        for text in (
            "\n", " ", "at 0\n", "at 0", "a 0\n", "a 0\nat 0\n", "at 0\na 0", "at 0\na 0\n\n", "\nat 0\na 0\n",
            "at 1\na 0\n", "at 0\na 0\nat 1\n", "at 0\na 0\nat 1\na 0\n", "at 0\na 0\nat 1\nb 1\n",
            "at 0\nb 0\na 0\n", "at 0\na 0\na 1\n", "at 0\na 0\nat 0\nb 0\n", "at 0\na 0\nat 2\na 1\nat 1\na 0\n",
            "at 0\na 0\nat 2\na 1\nat 2\na 0\n", "at 0\na 0\nat 01\na 1\n", "at 0\na 0\nat +1\na 1\n",
            "at 00\na 0\n", "at -0\na 0\n", "at 0\na 0\nat -1\na 1\n", "at 0\na 0\nat 1_0\na 1\n",
            "at 0\na 0\nat 1\na 11\n", "at 0\na 2\n", "at 0\na \n", "at 0\na\n", "at 0\n a 0\n", "at 0\na  0\n",
            "at 0\na 0 \n", "at 0 \na 0\n", "at  0\na 0\n", "at\na 0\n", "AT 0\na 0\n", "at 0\nA 0\n", "at 0\nis 0\n",
            "at 0\nat 0\n", "at 0\nat 0\na 0\n", "at 0\nlater 0\n", "at 0\nnot 0\n", "at 0\nabcdefghi 0\n",
            "at 0\n1a 0\n", "at 0\na 000000000\n", "at x\na 0\n", "at 0\na 0\n\nat 1\na 1\n", "at 0 a 0\n",
            f"at 0\na 0\nat {10 ** 60}\na 1\n", "at 0\na 0\nat " + "9" * 5000 + "\na 1\n",
            "at " + "9" * 5000 + "\n", "at 0\na 0\nat " + "9" * 5000 + "\n", "at 0\na 0\nat -" + "9" * 5000 + "\n",
            "at 0\na 0\nat 1\nb 1\na 1\n",
        ):
            self.refused(text)

    def test_a_text_spoilt_in_one_place(self):
        for at in range(len(TEXT)):
            self.spoilt(TEXT[:at] + TEXT[at + 1:])
            self.spoilt(TEXT[:at] + TEXT[at] + TEXT[at:])
            for sign in "01xzaqt \n-:":
                self.spoilt(TEXT[:at] + sign + TEXT[at + 1:])
                self.spoilt(TEXT[:at] + sign + TEXT[at:])
        lines = TEXT.split("\n")[:-1]
        for at in range(len(lines)):
            self.spoilt("".join([line + "\n" for line in lines[:at] + lines[at + 1:]]))
            self.spoilt("".join([line + "\n" for line in lines[:at] + [lines[at]] + lines[at:]]))
            for other in range(at):
                turned = list(lines)
                turned[at], turned[other] = turned[other], turned[at]
                self.spoilt("".join([line + "\n" for line in turned]))

    def spoilt(self, text):
        """It is refused, but where it is just what is written of other waves."""
        try:
            waves = read_waves(text)
        except NoText:
            return
        self.assertTrue(all(is_wave(wave) for wave in waves.values()), text)
        self.assertEqual(self.written(waves), text)

    def written(self, waves):
        """Point [24], time by time."""
        text = ""
        for time in sorted({time for wave in waves.values() for time, _ in wave}):
            text += f"at {time}\n"
            for name in sorted(waves):
                text += "".join([f"{name} {value}\n" for other, value in waves[name] if other == time])
        return text

    def test_told_dicts_are_the_askers_own(self):
        told = read_waves(TEXT)
        told["q"].clear()
        del told["a"]
        self.assertEqual(read_waves(TEXT), WAVES)


if __name__ == "__main__":
    unittest.main()
