"""Whether signals and blocks make a design: the first clash is told, in the order of the document."""

from deltawires.bits import is_put_value
from deltawires.edges import EDGES
from deltawires.errors import Clash
from deltawires.signalrows import SORTS, WIRE_SORTS, hangings
from deltawires.statements import is_body, names_set_by
from deltawires.terms import has_width, is_name, is_width

MOST_SIGNALS = 24
MOST_WIRES = 8
MOST_BLOCKS = 6
FEWEST_DRIVERS = 2
MOST_DRIVERS = 4


def is_row(thing):
    return isinstance(thing, tuple) and len(thing) == 4


def is_signal_row(thing):
    return is_row(thing) and isinstance(thing[0], str) and thing[0] in SORTS


def check_name(name, at, taken):
    """Refuses what is no name, or one that is taken; at is the number of its row."""
    if not is_name(name):
        raise Clash("name", name if isinstance(name, str) else str(at))
    if name in taken:
        raise Clash("again", name)


def check_signal_rows(signals):
    taken = {}
    for at, row in enumerate(signals):
        if not is_signal_row(row):
            raise Clash("row", str(at))
        check_name(row[1], at, taken)
        if not is_width(row[2]):
            raise Clash("width", row[1])
        taken[row[1]] = True


def check_many(signals, blocks):
    if len(signals) > MOST_SIGNALS:
        raise Clash("many", "signals")
    if len([row for row in signals if row[0] in WIRE_SORTS]) > MOST_WIRES:
        raise Clash("many", "wires")
    if isinstance(blocks, list) and len(blocks) > MOST_BLOCKS:
        raise Clash("many", "blocks")


def is_driver(thing, widths, width):
    if not isinstance(thing, tuple) or len(thing) != 2:
        return False
    return has_width(thing[0], widths, 1) and has_width(thing[1], widths, width)


def are_drivers(thing, widths, width):
    if not isinstance(thing, tuple) or not FEWEST_DRIVERS <= len(thing) <= MOST_DRIVERS:
        return False
    return all([is_driver(driver, widths, width) for driver in thing])


def is_what(row, widths):
    """Whether the last part of a signal's row is as its sort asks."""
    sort, name, width, what = row
    if sort == "input":
        return what is None
    if sort == "kept":
        return is_put_value(what, width=width)
    if sort == "bus":
        return are_drivers(what, widths, width)
    return has_width(what, widths, width)


def check_whats(signals, widths):
    for row in signals:
        if not is_what(row, widths):
            raise Clash("what", row[1])


def kept_names(signals):
    return [row[1] for row in signals if row[0] == "kept"]


def check_block(row, at, taken, widths, kept):
    if not is_row(row):
        raise Clash("row", str(at))
    name, edge, trigger, body = row
    check_name(name, at, taken)
    if not isinstance(edge, str) or edge not in EDGES:
        raise Clash("edge", name)
    if not isinstance(trigger, str) or widths.get(trigger, 0) != 1:
        raise Clash("trigger", name)
    if not is_body(body, widths, kept):
        raise Clash("body", name)


def check_blocks(blocks, widths, kept):
    if not isinstance(blocks, list) and not (isinstance(blocks, tuple) and len(blocks) == 0):
        raise Clash("row", "blocks")
    taken = {name: True for name in widths}
    for at, row in enumerate(blocks):
        check_block(row, at, taken, widths, kept)
        taken[row[0]] = True


def check_both(blocks, kept):
    now = names_set_by(blocks, "now")
    later = names_set_by(blocks, "later")
    for name in kept:
        if name in now and name in later:
            raise Clash("both", name)


def check_hangings(signals):
    hanging = hangings(signals)
    for row in signals:
        if row[1] in hanging[row[1]]:
            raise Clash("ring", row[1])
    filters = [row[1] for row in signals if row[0] == "filter"]
    for name in filters:
        if any([other in hanging[name] for other in filters]):
            raise Clash("filter", name)


def check_design(signals, blocks):
    """Raises Clash where signals and blocks make no design."""
    if not isinstance(signals, list):
        raise Clash("row", "signals")
    check_signal_rows(signals)
    check_many(signals, blocks)
    widths = {row[1]: row[2] for row in signals}
    kept = kept_names(signals)
    check_whats(signals, widths)
    check_blocks(blocks, widths, kept)
    check_both(blocks, kept)
    check_hangings(signals)
