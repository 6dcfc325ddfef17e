"""Configurations of a design, tuples (values, pending, awake, told), and the things that may be done in them."""

from deltawires.bits import is_put_value, is_value
from deltawires.bodies import body_done
from deltawires.changes import checked_changes
from deltawires.edges import woken
from deltawires.errors import NoName
from deltawires.settling import reckoned
from deltawires.signalrows import WIRE_SORTS
from deltawires.statements import names_set_by

SETTLED = "settled"
FREE = "free"
FILTERS = "filters"
LATER = "later"


def wire_names(design):
    """The names of the wires and buses, in order."""
    return [row[1] for row in design.signal_rows if row[0] in WIRE_SORTS]


def block_names(design):
    return [row[0] for row in design.block_rows]


def named_values(design, configuration):
    """A dict of all signals' values in a configuration, in order."""
    return dict(zip(design.names(), configuration[0]))


def behind_setting(design, configuration, setting):
    """The configuration behind a dict of new values that are set all at once."""
    values, pending, awake, told = configuration
    ahead = named_values(design, configuration)
    now = {**ahead, **setting}
    stirred = [wire for name in setting if now[name] != ahead[name] for wire in design.stirred_by_name[name]]
    risen = [row[0] for row in woken(design.block_rows, ahead, now)]
    return (
        tuple(now.values()),
        tuple([name for name in wire_names(design) if name in pending or name in stirred]),
        tuple([name for name in block_names(design) if name in awake or name in risen]),
        told,
    )


def begun(design, values, changes=None):
    """The configuration with which a moment begins, from a dict of all signals' values; NoName, NoValue."""
    setting = checked_changes(design, changes)
    still = tuple([values[name] for name in design.names()])
    return behind_setting(design, (still, (), (), ()), setting)


def filter_setting(design, configuration):
    """A dict of the filters that would change, with what they would have."""
    values = named_values(design, configuration)
    told = {row[1]: reckoned(row, values) for row in design.signal_rows if row[0] == "filter"}
    return {name: told[name] for name in told if told[name] != values[name]}


def doable(design, configuration, *, rule=SETTLED):
    """The names of the things that may be done by the rule, in order; none where the moment is over."""
    values, pending, awake, told = configuration
    first = list(pending) + list(awake) if rule == FREE else list(pending)
    if first:
        return first
    if filter_setting(design, configuration):
        return [FILTERS]
    if awake:
        return list(awake)
    return [LATER] if told else []


def without(names, name):
    return tuple([other for other in names if other != name])


def wire_done(design, configuration, wire):
    values, pending, awake, told = configuration
    value = reckoned(design.row_of(wire), named_values(design, configuration))
    return behind_setting(design, (values, without(pending, wire), awake, told), {wire: value})


def block_done(design, configuration, block):
    values, pending, awake, told = configuration
    body = [row[3] for row in design.block_rows if row[0] == block][0]
    now, later = body_done(body, named_values(design, configuration))
    known = {**dict(told), **later}
    behind = tuple([(name, known[name]) for name in design.names() if name in known])
    # It is awake no more ahead of what it sets, as that may wake it again.
    return behind_setting(design, (values, pending, without(awake, block), behind), now)


def later_done(design, configuration):
    values, pending, awake, told = configuration
    return behind_setting(design, (values, pending, awake, ()), dict(told))


def done(design, configuration, thing):
    """The configuration behind a thing, by no rule; NoName where it is neither pending nor awake."""
    if thing in configuration[1]:
        return wire_done(design, configuration, thing)
    if thing in configuration[2]:
        return block_done(design, configuration, thing)
    if thing == FILTERS:
        return behind_setting(design, configuration, filter_setting(design, configuration))
    if thing == LATER:
        return later_done(design, configuration)
    raise NoName(thing)


def are_values(thing, design):
    """Whether a thing has a value for each signal, in order, z in buses' alone."""
    if not isinstance(thing, tuple) or len(thing) != len(design.signal_rows):
        return False
    return all([
        is_value(value, width=width) if sort == "bus" else is_put_value(value, width=width)
        for value, (sort, name, width, what) in zip(thing, design.signal_rows)
    ])


def are_names_of(thing, names):
    """Whether a thing is a tuple of some of the names, in their order, each once."""
    if not isinstance(thing, tuple) or not all([isinstance(name, str) for name in thing]):
        return False
    return list(thing) == [name for name in names if name in thing]


def is_told(thing, design):
    """Whether a thing tells, in order, values for signals that are set later somewhere."""
    if not isinstance(thing, tuple):
        return False
    if not all([isinstance(pair, tuple) and len(pair) == 2 for pair in thing]):
        return False
    set_later = names_set_by(design.block_rows, LATER)
    if not are_names_of(tuple([pair[0] for pair in thing]), [name for name in design.names() if name in set_later]):
        return False
    return all([is_put_value(pair[1], width=design.width_of_signal(pair[0])) for pair in thing])


def is_configuration(thing, design):
    """Whether a thing is a configuration of this design, whatever it is."""
    if not isinstance(thing, tuple) or len(thing) != 4:
        return False
    values, pending, awake, told = thing
    if not are_names_of(pending, wire_names(design)) or not are_names_of(awake, block_names(design)):
        return False
    return are_values(values, design) and is_told(told, design)
