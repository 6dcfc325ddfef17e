"""Runs of a design by its net: in each round all blocks that are woken do their bodies at once."""

from deltawires.bits import TOLD
from deltawires.bodies import body_done
from deltawires.changes import checked_changes
from deltawires.edges import woken
from deltawires.errors import NoName, Unending
from deltawires.settling import settled
from deltawires.statements import names_set_by

DELTAS = 40


def first_values(design):
    """A dict of what the inputs and the kept signals have at first."""
    unknown = {name: "x" * design.width_of_signal(name) for name in design.names(sort="input")}
    kept = {name: design.what_of(name) for name in design.names(sort="kept")}
    return {**unknown, **kept}


def are_triggers_told(design, values):
    return all([values[row[2]] in TOLD for row in design.block_rows])


def behind_round(design, values, blocks):
    """The settled values behind a round; each body goes by those ahead of it, and the later body counts."""
    changed = dict(values)
    for row in blocks:
        now, later = body_done(row[3], values)
        changed = {**changed, **now, **later}
    return settled(design, changed)


class NetRun:
    """A run that goes on moment by moment."""

    def __init__(self, design):
        self.design = design
        self.standing = settled(design, first_values(design))
        self.names_later = names_set_by(design.block_rows, "later")
        self.many_over = 0
        self.all_told = True

    def moment(self, changes=None, *, deltas=DELTAS):
        """Puts the changes in and tells how many deltas came of them; NoName, NoValue or Unending change nothing."""
        ahead = self.standing
        now = settled(self.design, {**ahead, **checked_changes(self.design, changes)})
        told = are_triggers_told(self.design, now)
        rounds = 0
        many = 0
        blocks = woken(self.design.block_rows, ahead, now)
        while blocks:
            behind = behind_round(self.design, now, blocks)
            step = 1 if any([now[name] != behind[name] for name in self.names_later]) else 0
            if many + step > deltas or rounds > deltas:
                raise Unending(many)
            many += step
            rounds += 1
            told = told and are_triggers_told(self.design, behind)
            blocks = woken(self.design.block_rows, now, behind)
            now = behind
        self.standing = now
        self.many_over += 1
        self.all_told = self.all_told and told
        return many

    def value(self, name):
        """The value of a signal as it stands, or NoName."""
        if name not in self.standing:
            raise NoName(name)
        return self.standing[name]

    def all_values(self):
        """A dict of all signals' values as they stand, in order."""
        return dict(self.standing)

    def moments(self):
        """How many moments are over."""
        return self.many_over

    def is_clear(self):
        """Whether each trigger was told each time that a moment was settled."""
        return self.all_told

    def copied(self):
        """A run of its own that stands as this one."""
        twin = NetRun(self.design)
        twin.standing = dict(self.standing)
        twin.many_over = self.many_over
        twin.all_told = self.all_told
        return twin
