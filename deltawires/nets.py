"""The net of a design: gates of one bit each, and what they tell of signals and blocks."""

from deltawires.bits import read
from deltawires.errors import NoName
from deltawires.settling import driven
from deltawires.signalrows import HELD_SORTS
from deltawires.statements import behind_body
from deltawires.tables import most_sign, operated
from deltawires.termgates import GateList, pick_gates, term_gates


def bus_gates(found, drivers, width, outlets):
    """The gates of a bus, by its drivers."""
    whens = [term_gates(found, driver[0], outlets)[0] for driver in drivers]
    terms = [term_gates(found, driver[1], outlets) for driver in drivers]
    return [
        found.put(("bus", tuple([(when, numbers[at]) for when, numbers in zip(whens, terms)])))
        for at in range(width)
    ]


def signal_gates(found, row, outlets):
    """The gates of a signal, by those of the signals that it hangs on."""
    sort, name, width, what = row
    if sort in HELD_SORTS:
        return [found.put(("bit", name, width - 1 - at)) for at in range(width)]
    if sort == "bus":
        return bus_gates(found, what, width, outlets)
    return term_gates(found, what, outlets)


def all_signal_gates(found, design):
    """A dict from each signal's name to its gates."""
    outlets = {row[1]: signal_gates(found, row, {}) for row in design.signal_rows if row[0] in HELD_SORTS}
    for row in design.reckoned_rows:
        outlets[row[1]] = signal_gates(found, row, outlets)
    return outlets


def body_gates(found, body, outlets):
    """A dict from the name of each signal that a body sets to the gates of what it is behind it."""
    def told(term, here):
        return term_gates(found, term, here)

    def chosen(choice, one, other, ahead):
        either = {**one, **other}
        return {
            name: pick_gates(found, choice, one.get(name, ahead[name]), other.get(name, ahead[name]))
            for name in either
        }

    now, later = behind_body(body, outlets, ({}, {}), told, chosen)
    # No signal is in both, as a design refuses one that is set now and later.
    return {**now, **later}


def gate_sign(gate, found, given):
    """The sign of a gate, by those of all gates below it and by what is given."""
    word = gate[0]
    if word == "bit":
        value = given[gate[1]]
        return value[len(value) - 1 - gate[2]]
    if word == "is":
        return gate[1]
    if word == "bus":
        return driven([(read(found[when]), read(found[number])) for when, number in gate[1]])
    handed = [read(found[number]) for number in gate[1:]]
    if word == "read":
        return handed[0]
    if word == "most":
        return most_sign(handed[0], handed[1], handed[2])
    return operated(word, handed)


class Net:
    """The gates of a design, and its outlets."""

    def __init__(self, design):
        found = GateList()
        outlets = all_signal_gates(found, design)
        self.outlet_by_name = {name: tuple(outlets[name]) for name in outlets}
        self.sets_by_block = {}
        for name, edge, trigger, body in design.block_rows:
            numbers = body_gates(found, body, outlets)
            self.sets_by_block[name] = {signal: tuple(numbers[signal]) for signal in numbers}
        self.all_gates = found.made

    def gates(self):
        """The gates, each a tuple, by their numbers."""
        return list(self.all_gates)

    def outlet(self, name):
        """The numbers of a signal's gates, the highest bit's first, or NoName."""
        if name not in self.outlet_by_name:
            raise NoName(name)
        return self.outlet_by_name[name]

    def sets(self, block):
        """A dict from each signal that a block sets to the numbers of its gates behind the body, or NoName."""
        if block not in self.sets_by_block:
            raise NoName(block)
        return dict(self.sets_by_block[block])

    def signs(self, given):
        """The sign of each gate, by the values of the inputs and the kept signals."""
        found = []
        for gate in self.all_gates:
            found.append(gate_sign(gate, found, given))
        return found
