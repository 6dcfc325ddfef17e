"""Point [23]: waves, what they have at a time, and what they are held by a least time."""

import unittest

from deltawires.waves import held, is_wave, value_at
from samples import NO_TEXTS, drawn_value, source_of

LATEST = 10 ** 60 - 1
PLAIN = [(0, "x0"), (3, "10"), (4, "zz"), (9, "10")]


def drawn_wave(source, longest=6, steps=(1, 1, 2, 3, 5)):
    width = source.choice([1, 1, 2])
    wave = [(0, drawn_value(source, width))]
    while len(wave) < longest and source.random() < 0.85:
        value = drawn_value(source, width)
        if value != wave[-1][1]:
            wave.append((wave[-1][0] + source.choice(steps), value))
    return wave


def at(wave, time):
    """Point [23], from the last tuple down."""
    for start, value in reversed(wave):
        if start <= time:
            return value
    raise AssertionError("a wave begins at 0")


def held_by_words(wave, least, end):
    """Point [23] gone through time by time, as a list of the values at each time up to the end."""
    told = []
    for time in range(end + 1):
        if time < least:
            told.append(wave[0][1])
            continue
        window = {at(wave, other) for other in range(time - least, time + 1)}
        told.append(window.pop() if len(window) == 1 else told[-1])
    return told


class IsWave(unittest.TestCase):
    def check(self, thing, expected):
        self.assertIs(is_wave(thing), expected, thing)

    def test_waves(self):
        for wave in (PLAIN, [(0, "z")], [(0, "0"), (1, "1"), (2, "0")], [(0, "01xz01xz"), (10 ** 59, "00000000")],
                     [(0, "x"), (LATEST, "z")]):
            self.check(wave, True)

    def test_no_list(self):
        for thing in [*NO_TEXTS, [], tuple(PLAIN), dict(PLAIN), "wave", [PLAIN], [[]], [()], [None], ["0"]]:
            self.check(thing, False)

    def test_steps_that_are_no_tuples_of_two(self):
        for step in ([3, "10"], (3,), (3, "10", "10"), "3", (), None, {3: "10"}, 3, ((3, "10"),)):
            self.check([(0, "x0"), step], False)
            self.check([step, (4, "x0")], False)

    def test_times(self):
        for time in (True, False, None, "3", -1, "", [], (1,), 10 ** 60, 10 ** 60 + 1, 10 ** 4000, -10 ** 4000, b"1"):
            self.check([(0, "x0"), (time, "10")], False)
            self.check([(time, "x0"), (10 ** 5, "10")], False)
            self.check([(time, "x0")], False)
        for time in (1, 2, 10 ** 59, LATEST):
            self.check([(0, "x0"), (time, "10")], True)
            self.check([(time, "x0")], False)

    def test_times_that_do_not_rise(self):
        for times in ((0, 0), (0, 3, 3), (0, 3, 2), (0, 5, 6, 6, 7), (1, 2), (-1, 0), (3, 0)):
            self.check([(time, "01"[place % 2]) for place, time in enumerate(times)], False)

    def test_true_and_false_are_no_whole_numbers(self):
        self.check([(False, "0")], False)
        self.check([(0, "0"), (True, "1")], False)

    def test_values(self):
        for value in ("", "2", "000000000", "0 ", None, 0, 1, True, ["0"], ("0",), b"0", "X", "0\n"):
            self.check([(0, value)], False)
            self.check([(0, "0"), (1, value)], False)
            self.check([(0, value), (1, "0")], False)

    def test_values_of_one_width(self):
        self.check([(0, "0"), (1, "11")], False)
        self.check([(0, "00"), (1, "11"), (2, "1")], False)

    def test_each_value_unlike_the_one_ahead(self):
        self.check([(0, "0"), (1, "0")], False)
        self.check([(0, "0"), (1, "1"), (2, "1")], False)
        self.check([(0, "x"), (1, "z"), (2, "x")], True)

    def test_however_deep(self):
        deep = []
        for _ in range(2000):
            deep = [deep]
        self.check(deep, False)
        self.check([(0, deep)], False)
        self.check([(deep, "0")], False)
        around = []
        around.append(around)
        self.check(around, False)
        self.check([(0, around)], False)


class ValueAt(unittest.TestCase):
    def test_at_ahead_of_and_behind_each_change(self):
        for time, value in ((0, "x0"), (1, "x0"), (2, "x0"), (3, "10"), (4, "zz"), (5, "zz"), (8, "zz"), (9, "10"),
                            (10, "10"), (10 ** 60, "10"), (10 ** 90, "10")):
            self.assertEqual(value_at(PLAIN, time), value)

    def test_one_value(self):
        for time in (0, 1, 10 ** 60):
            self.assertEqual(value_at([(0, "z")], time), "z")

    def test_great_times(self):
        wave = [(0, "0"), (10 ** 50, "1"), (LATEST, "x")]
        for time, value in ((10 ** 50 - 1, "0"), (10 ** 50, "1"), (10 ** 50 + 1, "1"), (LATEST - 1, "1"),
                            (LATEST, "x"), (LATEST + 1, "x")):
            self.assertEqual(value_at(wave, time), value)

    def test_drawn(self):
        source = source_of("value at")
        for _ in range(200):
            wave = drawn_wave(source)
            for time in range(wave[-1][0] + 3):
                self.assertEqual(value_at(wave, time), at(wave, time))


class Held(unittest.TestCase):
    def test_by_none_it_is_the_same(self):
        for wave in (PLAIN, [(0, "z")], [(0, "0"), (LATEST, "1")]):
            self.assertEqual(held(wave, 0), wave)
            self.assertIsNot(held(wave, 0), wave)

    def test_just_as_long_one_less_and_one_more(self):
        """A value that stands five times."""
        wave = [(0, "0"), (10, "1"), (15, "x"), (40, "0")]
        for least, expected in (
            (3, [(0, "0"), (13, "1"), (18, "x"), (43, "0")]), (4, [(0, "0"), (14, "1"), (19, "x"), (44, "0")]),
            (5, [(0, "0"), (20, "x"), (45, "0")]), (6, [(0, "0"), (21, "x"), (46, "0")]),
            (24, [(0, "0"), (39, "x"), (64, "0")]), (25, [(0, "0")]), (26, [(0, "0")]),
        ):
            self.assertEqual(held(wave, least), expected)
            self.assertTrue(is_wave(held(wave, least)))

    def test_the_first_value(self):
        """It stands ahead of the least time, however short it was."""
        wave = [(0, "0"), (1, "1"), (50, "0")]
        for least in (0, 1, 2, 48):
            self.assertEqual(held(wave, least), [(0, "0"), (1 + least, "1"), (50 + least, "0")])
        self.assertEqual(held(wave, 49), [(0, "0")])
        self.assertEqual(held([(0, "0"), (1, "1")], 1000), [(0, "0"), (1001, "1")])

    def test_what_was_too_short_between_two_alike_is_not_seen(self):
        wave = [(0, "0"), (10, "1"), (12, "0"), (30, "1"), (31, "x"), (33, "1")]
        self.assertEqual(held(wave, 2), [(0, "0"), (35, "1")])
        self.assertEqual(held(wave, 1), [(0, "0"), (11, "1"), (13, "0"), (32, "x"), (34, "1")])

    def test_great_times(self):
        wave = [(0, "0"), (10 ** 50, "1"), (10 ** 50 + 10 ** 40, "x"), (10 ** 55, "z")]
        self.assertEqual(held(wave, 10 ** 40 - 1),
                         [(0, "0"), (10 ** 50 + 10 ** 40 - 1, "1"), (10 ** 50 + 2 * 10 ** 40 - 1, "x"),
                          (10 ** 55 + 10 ** 40 - 1, "z")])
        for least in (10 ** 40, 10 ** 40 + 1):
            self.assertEqual(held(wave, least), [(0, "0"), (10 ** 50 + 10 ** 40 + least, "x"), (10 ** 55 + least, "z")])
        self.assertEqual(held([(0, "0"), (1, "1")], 10 ** 60 - 2), [(0, "0"), (LATEST, "1")])

    def test_against_the_words(self):
        source = source_of("held")
        for _ in range(250):
            wave = drawn_wave(source, longest=7)
            for least in range(0, 9):
                told = held(wave, least)
                end = wave[-1][0] + least + 3
                self.assertTrue(is_wave(told), (wave, least))
                self.assertEqual([value_at(told, time) for time in range(end + 1)], held_by_words(wave, least, end),
                                 (wave, least))

    def test_it_takes_another_value_just_when_the_wave_has_had_that_one_so_long(self):
        source = source_of("held so long")
        for _ in range(100):
            wave = drawn_wave(source, longest=7)
            for least in range(0, 6):
                for time, value in held(wave, least)[1:]:
                    self.assertEqual({value_at(wave, time - back) for back in range(least + 1)}, {value})
                    if time > least:
                        self.assertNotEqual(value_at(wave, time - least - 1), value)

    def test_held_again(self):
        source = source_of("held again")
        for _ in range(150):
            wave = drawn_wave(source, longest=8, steps=(1, 2, 3, 7))
            for least in range(0, 7):
                once = held(wave, least)
                for again in range(0, least + 1):
                    later = once[:1] + [(time + again, value) for time, value in once[1:]]
                    self.assertEqual(held(once, again), later)

    def test_what_is_handed_in_is_not_changed(self):
        wave = list(PLAIN)
        told = held(wave, 2)
        value_at(wave, 3)
        is_wave(wave)
        self.assertEqual(wave, PLAIN)
        wave.clear()
        self.assertEqual(told, held(PLAIN, 2))
        told.clear()
        self.assertEqual(held(PLAIN, 2), [(0, "x0"), (6, "zz"), (11, "10")])


if __name__ == "__main__":
    unittest.main()
