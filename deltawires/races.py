"""Races: what may make the order of the events tell."""

from deltawires.configurations import FREE, SETTLED
from deltawires.signalrows import HELD_SORTS
from deltawires.statements import names_read, names_set


def is_set_by(signal, body):
    return signal in names_set(body, "now") or signal in names_set(body, "later")


def twice_races(design):
    """Two blocks that set one signal."""
    found = []
    for signal in design.names(sort="kept"):
        setters = [name for name, edge, trigger, body in design.blocks() if is_set_by(signal, body)]
        found.extend([
            ("twice", block, other, signal) for at, block in enumerate(setters) for other in setters[at + 1:]
        ])
    return found


def comes_from(design, names, signal):
    """Whether the signal is among the origins of one of the names."""
    return any([signal in design.origins(name) for name in names])


def is_seen_by(design, row, signal, block):
    """Whether the block of a row may see a signal that a block sets now; what it set itself, its body goes by."""
    name, edge, trigger, body = row
    if comes_from(design, [trigger], signal):
        return True
    return name != block and comes_from(design, names_read(body), signal)


def seen_races(design):
    """A block that sees what a block sets now."""
    found = []
    for block, edge, trigger, body in design.blocks():
        now = names_set(body, "now")
        found.extend([
            ("seen", block, row[0], signal)
            for signal in design.names() if signal in now
            for row in design.blocks() if is_seen_by(design, row, signal, block)
        ])
    return found


def glitch_races(design):
    """A trigger that may go back and forth ahead of its end."""
    return [
        ("glitch", block, "", trigger)
        for block, edge, trigger, body in design.blocks() if not design.is_chain(trigger)
    ]


def early_races(design):
    """A block that may go by a signal that isn't reckoned yet."""
    return [
        ("early", block, "", signal)
        for block, edge, trigger, body in design.blocks()
        for signal in design.names() if design.sort_of(signal) not in HELD_SORTS and signal in names_read(body)
    ]


def races(design, *, rule=SETTLED):
    """The races under a rule, tuples (kind, block, other, signal), "" where there is none."""
    found = twice_races(design) + seen_races(design) + glitch_races(design)
    return found + early_races(design) if rule == FREE else found
