"""Designs: signals, and blocks that an edge wakes."""

from deltawires.clashes import check_design
from deltawires.errors import NoName
from deltawires.signalrows import HELD_SORTS, WIRE_SORTS, hangings, names_of_row, reckoning_order, wires_stirred


class Design:
    """Signals and blocks that fit together. It never changes, so that runs may share it."""

    def __init__(self, signals, blocks=()):
        check_design(signals, blocks)
        self.signal_rows = list(signals)
        self.block_rows = list(blocks)
        self.row_by_name = {row[1]: row for row in self.signal_rows}
        self.hanging = hangings(self.signal_rows)
        self.reckoned_rows = reckoning_order(self.signal_rows, self.hanging)
        self.stirred_by_name = wires_stirred(self.signal_rows)

    def __eq__(self, other):
        return (
            isinstance(other, Design)
            and self.signal_rows == other.signal_rows
            and self.block_rows == other.block_rows
        )

    def __len__(self):
        return len(self.signal_rows)

    def __repr__(self):
        return f"Design({self.signal_rows!r}, {self.block_rows!r})"

    def signals(self):
        """The rows of the signals, as they were handed in."""
        return list(self.signal_rows)

    def blocks(self):
        """The rows of the blocks, as they were handed in."""
        return list(self.block_rows)

    def names(self, *, sort=""):
        """The names of all signals, or of those of one sort, in order."""
        return [row[1] for row in self.signal_rows if sort in ("", row[0])]

    def row_of(self, name):
        """The row of the signal with this name, or NoName."""
        if name not in self.row_by_name:
            raise NoName(name)
        return self.row_by_name[name]

    def sort_of(self, name):
        return self.row_of(name)[0]

    def width_of_signal(self, name):
        return self.row_of(name)[2]

    def what_of(self, name):
        return self.row_of(name)[3]

    def origins(self, name):
        """The inputs and kept signals from which a signal comes, in order."""
        if self.sort_of(name) in HELD_SORTS:
            return [name]
        hung_on = self.hanging[name]
        return [row[1] for row in self.signal_rows if row[0] in HELD_SORTS and row[1] in hung_on]

    def is_chain(self, name):
        """Whether a signal comes from one origin or filter by one way alone."""
        row = self.row_of(name)
        if row[0] not in WIRE_SORTS:
            return True
        names = names_of_row(row)
        return len(names) == 1 and self.is_chain(names[0])
