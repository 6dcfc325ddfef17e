"""The waves of an event run, and waves as a text and back."""

from deltawires.errors import NoName, NoText
from deltawires.figures import is_whole_text, whole_of
from deltawires.terms import is_name
from deltawires.waves import is_wave


def wave_of(run, name):
    """The wave of a signal in the moments of an event run that are over, or NoName."""
    wave = [(time, value) for time, other, value in run.story() if other == name]
    # Each signal has a value at 0.
    if not wave:
        raise NoName(name)
    return wave


def waves_text(waves):
    """A dict from names to waves as a text."""
    lines_by_time = {}
    for name in sorted(waves):
        for time, value in waves[name]:
            lines_by_time.setdefault(time, []).append(name + " " + value)
    lines = []
    for time in sorted(lines_by_time):
        lines.append("at " + str(time))
        lines.extend(lines_by_time[time])
    return "".join([line + "\n" for line in lines])


def read_lines(lines):
    """A dict from names to lists of tuples (time, value), as the lines tell them, be they waves or not."""
    found = {}
    time = -1
    for line in lines:
        words = line.split(" ")
        if len(words) != 2:
            raise NoText("a line has other words")
        name, told = words
        if name != "at":
            found.setdefault(name, []).append((time, told))
        elif is_whole_text(told):
            time = whole_of(told)
        else:
            raise NoText("a time is no whole number")
    return found


def read_waves(text):
    """The dict from names to waves that is written so; NoText where there is none."""
    if not isinstance(text, str):
        raise NoText("it is no text")
    waves = read_lines(text.split("\n")[:-1])
    if not all([is_name(name) and is_wave(waves[name]) for name in waves]):
        raise NoText("a line tells no wave's value")
    # What was read too kindly above, such as lines in another order, shows here.
    if waves_text(waves) != text:
        raise NoText("no waves are written so")
    return waves
