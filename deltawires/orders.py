"""Where the orders of a moment end: alike, with a paper that shows it, parted, or nowhere."""

from deltawires.configurations import SETTLED, doable, done, is_configuration
from deltawires.errors import TooMany

MOST = 400


class Reach:
    """All configurations that one can come to from a first one, TooMany where they are more than most."""

    def __init__(self, design, first, rule, most):
        self.first = first
        # From each configuration to a list of tuples (thing, the configuration behind it).
        self.steps = {}
        # From each configuration but the first to the one ahead of it by which it was found, and the thing.
        self.ahead = {}
        left = [first]
        while left:
            if len(self.ahead) + 1 > most:
                raise TooMany(most)
            here = left.pop()
            self.steps[here] = [(thing, done(design, here, thing)) for thing in doable(design, here, rule=rule)]
            for thing, there in self.steps[here]:
                if there != first and there not in self.ahead:
                    self.ahead[there] = (here, thing)
                    left.append(there)

    def way_to(self, there):
        """The things by which one comes from the first configuration to another."""
        things = []
        while there != self.first:
            there, thing = self.ahead[there]
            things.append(thing)
        return tuple(things[::-1])

    def last_ones(self):
        """The configurations in which nothing is doable."""
        return [here for here in self.steps if not self.steps[here]]


class Walk:
    """Goes through all that a Reach has, deep first, and stops at a ring."""

    def __init__(self, reach):
        self.reach = reach
        # The configurations from the first to where it stands, and the things between them.
        self.path = [reach.first]
        self.things = []
        # Of each configuration in the path, the steps that are left.
        self.left = [list(reach.steps[reach.first])]
        # True of those in the path, False of those that are left behind.
        self.in_path = {reach.first: True}
        self.left_behind = []
        self.ring = ()
        while self.path and not self.ring:
            self.take_step()

    def take_step(self):
        if not self.left[-1]:
            self.step_back()
            return
        thing, there = self.left[-1].pop()
        if there not in self.in_path:
            self.path.append(there)
            self.things.append(thing)
            self.left.append(list(self.reach.steps[there]))
            self.in_path[there] = True
        elif self.in_path[there]:
            at = self.path.index(there)
            self.ring = (tuple(self.things[:at]), tuple(self.things[at:] + [thing]))

    def step_back(self):
        here = self.path.pop()
        self.left.pop()
        self.in_path[here] = False
        self.left_behind.append(here)
        if self.things:
            self.things.pop()


def ends(design, configuration, *, rule=SETTLED, most=MOST):
    """A tuple that begins with "alike", "parted" or "endless", and shows it; TooMany."""
    reach = Reach(design, configuration, rule, most)
    walk = Walk(reach)
    if walk.ring:
        return ("endless", walk.ring[0], walk.ring[1])
    last = reach.last_ones()
    for other in last:
        if other[0] != last[0][0]:
            return ("parted", reach.way_to(last[0]), reach.way_to(other))
    # All that one comes to from a configuration is left behind ahead of it.
    return ("alike", last[0][0], walk.left_behind[::-1])


def leads_on(design, here, places, rule):
    """Whether each thing that is doable here leads to one whose place is behind."""
    behind = [done(design, here, thing) for thing in doable(design, here, rule=rule)]
    return all([there in places and places[there] > places[here] for there in behind])


def is_alike(design, paper, *, rule=SETTLED):
    """Whether a thing is a paper of configurations of this design."""
    if not isinstance(paper, list) or len(paper) == 0:
        return False
    if not all([is_configuration(here, design) for here in paper]):
        return False
    places = {here: at for at, here in enumerate(paper)}
    if len(places) != len(paper) or not all([leads_on(design, here, places, rule) for here in paper]):
        return False
    last = [here[0] for here in paper if not doable(design, here, rule=rule)]
    return all([values == last[0] for values in last])


def ended(design, configuration, things):
    """The configuration behind things done one after another, by no rule; NoName."""
    here = configuration
    for thing in things:
        here = done(design, here, thing)
    return here
