"""Waves: lists of tuples (time, value), each value from its time on."""

from deltawires.bits import is_value, is_whole

# Times are below this one.
TOO_LATE = 10 ** 60


def is_step(thing):
    """Whether a thing is a tuple of a time and a value."""
    if not isinstance(thing, tuple) or len(thing) != 2:
        return False
    return is_whole(thing[0]) and thing[0] < TOO_LATE and is_value(thing[1])


def goes_on(ahead, step):
    """Whether a step may stand straight behind another one."""
    return ahead[0] < step[0] and ahead[1] != step[1] and len(ahead[1]) == len(step[1])


def is_wave(thing):
    """Whether a thing is a wave, whatever it is."""
    if not isinstance(thing, list) or len(thing) == 0 or not all([is_step(step) for step in thing]):
        return False
    return thing[0][0] == 0 and all([goes_on(ahead, step) for ahead, step in zip(thing, thing[1:])])


def value_at(wave, time):
    """The value of a wave at a time from 0 on."""
    return [value for start, value in wave if start <= time][-1]


def held(wave, least):
    """The wave that takes a value as soon as the wave has had it for the least time."""
    told = [wave[0]]
    for at, (start, value) in enumerate(wave):
        is_long = at + 1 == len(wave) or wave[at + 1][0] - start > least
        # What was too short between two alike is not seen, so these are one.
        if is_long and value != told[-1][1]:
            told.append((start + least, value))
    return told
