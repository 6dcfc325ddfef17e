"""The course of one moment of an event run, thing by thing."""

from deltawires.configurations import LATER, doable, done
from deltawires.errors import Unending


def new_rows(names, time, ahead, now):
    """Tuples (time, name, value) of the signals whose values are not those ahead, in order."""
    return [(time, name, value) for name, before, value in zip(names, ahead, now) if value != before]


class Course:
    """Where a moment stands, and how it came there; the time is that of its beginning."""

    def __init__(self, design, rule, ahead, first, time, order):
        self.design = design
        self.rule = rule
        self.reached = first
        self.time = time
        self.story_rows = new_rows(design.names(), time, ahead, first[0])
        self.numbers = list(order)
        self.many_taken = 0
        self.things_done = []
        self.many_deltas = 0
        self.many_since_later = 0

    def next_thing(self):
        """The thing that the order says, "" where nothing is doable."""
        choices = doable(self.design, self.reached, rule=self.rule)
        if len(choices) > 1 and self.many_taken < len(self.numbers):
            number = self.numbers[self.many_taken]
            self.many_taken += 1
            return choices[number % len(choices)]
        return choices[0] if choices else ""

    def go_on(self, thing, deltas, things):
        """Does a thing; Unending where it would go beyond one of the limits."""
        behind = done(self.design, self.reached, thing)
        is_later = thing == LATER
        is_delta = is_later and behind[0] != self.reached[0]
        if is_delta and self.many_deltas >= deltas:
            raise Unending(self.many_deltas)
        if not is_later and self.many_since_later >= things:
            raise Unending(self.many_deltas)
        self.many_deltas += 1 if is_delta else 0
        self.many_since_later = 0 if is_later else self.many_since_later + 1
        self.time += 1
        self.story_rows.extend(new_rows(self.design.names(), self.time, self.reached[0], behind[0]))
        self.things_done.append(thing)
        self.reached = behind
