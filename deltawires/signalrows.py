"""The rows of signals, tuples (sort, name, width, what), and what hangs on what among them."""

from deltawires.terms import every_name, once_each

SORTS = ("input", "wire", "filter", "bus", "kept")
# Those whose values are put in or kept, not reckoned from others.
HELD_SORTS = ("input", "kept")
# Those that a design has only a few of, and that are pending when something in their terms changes.
WIRE_SORTS = ("wire", "bus")


def terms_of_row(row):
    """All terms of a signal, of a bus each driver's when ahead of its other one."""
    sort, name, width, what = row
    if sort == "bus":
        return [term for driver in what for term in driver]
    return [] if sort in HELD_SORTS else [what]


def names_of_row(row):
    """The names in a signal's terms, each as often as it stands."""
    return [name for term in terms_of_row(row) for name in every_name(term)]


def all_reached(name, straight):
    """All names that are reached from a name by a dict from each name to those straight behind it."""
    reached = list(straight[name])
    found = {other: True for other in reached}
    # A ring comes to an end here too, as each name is gone on from once.
    while reached:
        here = reached.pop()
        for other in straight[here]:
            if other not in found:
                found[other] = True
                reached.append(other)
    return found


def hangings(rows):
    """A dict from each signal's name to a dict whose keys are the names that it hangs on."""
    straight = {row[1]: once_each(names_of_row(row)) for row in rows}
    return {name: all_reached(name, straight) for name in straight}


def wires_stirred(rows):
    """A dict from each signal's name to the wires and buses in whose terms it stands, in order."""
    wires = [(row[1], names_of_row(row)) for row in rows if row[0] in WIRE_SORTS]
    return {row[1]: [wire for wire, names in wires if row[1] in names] for row in rows}


def reckoning_order(rows, hanging):
    """The rows of all signals that are reckoned, each behind those that it hangs on."""
    reckoned = [row for row in rows if row[0] not in HELD_SORTS]
    # What a signal hangs on hangs on fewer signals than itself.
    return sorted(reckoned, key=lambda row: len(hanging[row[1]]))
