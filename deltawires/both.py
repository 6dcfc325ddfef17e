"""Both runs of a design, by its net and by events, side by side."""

from deltawires.configurations import SETTLED
from deltawires.errors import Unending
from deltawires.eventruns import EventRun
from deltawires.netruns import NetRun


def net_deltas(run, changes):
    """How many deltas a moment of a net run has, None where it is refused as unending."""
    try:
        return run.moment(changes)
    except Unending:
        return None


def event_deltas(run, changes, order):
    """How many deltas a moment of an event run has, None where it is refused as unending."""
    try:
        return run.moment(changes, order=order)
    except Unending:
        return None


def unlike_names(one, other):
    """The names whose values are unlike in two dicts, in order."""
    return [name for name in one if one[name] != other[name]]


def held_together(net, events, by_net, by_events):
    """What is told of a moment, by both runs behind it and by the deltas of each, None for unending."""
    if by_net is None and by_events is None:
        return ("unending", "both")
    if by_net is None:
        return ("unending", "net")
    if by_events is None:
        return ("unending", "events")
    names = unlike_names(net.all_values(), events.all_values())
    if names or by_net != by_events:
        return ("apart", names)
    return ("alike", by_net)


class Both:
    """A net run and an event run that stand alike."""

    def __init__(self, design, *, rule=SETTLED):
        self.design = design
        self.rule = rule
        self.net = NetRun(design)
        self.events = EventRun(design, rule=rule)

    def moment(self, changes=None, *, order=()):
        """Goes on with both where they come out alike, and tells what came of it; NoName, NoValue."""
        net = self.net.copied()
        events = self.events.copied()
        by_net = net_deltas(net, changes)
        by_events = event_deltas(events, changes, order)
        told = held_together(net, events, by_net, by_events)
        if told[0] == "alike":
            self.net = net
            self.events = events
        return told

    def all_values(self):
        """A dict of all signals' values as they stand, in order."""
        return self.net.all_values()

    def net_run(self):
        """A copy of the net run as it stands."""
        return self.net.copied()

    def event_run(self):
        """A copy of the event run as it stands."""
        return self.events.copied()

    def copied(self):
        """A Both of its own that stands as this one."""
        twin = Both(self.design, rule=self.rule)
        twin.net = self.net.copied()
        twin.events = self.events.copied()
        return twin
