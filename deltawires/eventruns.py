"""Runs of a design by events: one thing is done after another, and an order says which."""

from deltawires.configurations import SETTLED, begun, named_values
from deltawires.courses import Course
from deltawires.errors import Busy, NoName
from deltawires.netruns import DELTAS, first_values
from deltawires.settling import settled

THINGS = 5000


class EventRun:
    """A run that goes on moment by moment, under a rule."""

    def __init__(self, design, *, rule=SETTLED):
        self.design = design
        self.rule = rule
        self.standing = settled(design, first_values(design))
        # None but while a moment is under way.
        self.course = None
        self.last_time = 0
        # One tuple of rows for each moment that is over, which copies of the run share.
        self.chapters = [tuple([(0, name, self.standing[name]) for name in self.standing])]
        self.last_things = []
        self.many_over = 0
        self.book_rows = []

    def moment(self, changes=None, *, order=(), deltas=DELTAS, things=THINGS, watch=None):
        """Does one thing after another and tells how many deltas there were; Busy, NoName, NoValue, Unending."""
        if self.course is not None:
            raise Busy("a moment is under way")
        first = begun(self.design, self.standing, changes)
        ahead = tuple(self.standing.values())
        course = Course(self.design, self.rule, ahead, first, self.last_time + 1, order)
        # Each moment that was left has two rows.
        number = len(self.book_rows) // 2
        ending = "refused"
        self.book_rows.append((number, "begun"))
        self.course = course
        try:
            thing = course.next_thing()
            while thing != "":
                course.go_on(thing, deltas, things)
                if watch is not None:
                    watch(thing)
                thing = course.next_thing()
            ending = "over"
        finally:
            # Whatever a watch raises comes by here.
            self.course = None
            self.book_rows.append((number, ending))
        self.take(course)
        return course.many_deltas

    def take(self, course):
        """Stands as the course of a moment ends."""
        self.standing = named_values(self.design, course.reached)
        self.last_time = course.time
        self.chapters.append(tuple(course.story_rows))
        self.last_things = course.things_done
        self.many_over += 1

    def value(self, name):
        """The value of a signal as it stands, amid a moment too, or NoName."""
        values = self.all_values()
        if name not in values:
            raise NoName(name)
        return values[name]

    def all_values(self):
        """A dict of all signals' values as they stand, amid a moment too, in order."""
        if self.course is None:
            return dict(self.standing)
        return named_values(self.design, self.course.reached)

    def moments(self):
        """How many moments are over."""
        return self.many_over

    def is_busy(self):
        """Whether a moment is under way."""
        return self.course is not None

    def done_last(self):
        """The names of the things done in the last moment that is over."""
        return list(self.last_things)

    def story(self):
        """Tuples (time, name, value) of all that the signals got, in the moments that are over."""
        return [row for chapter in self.chapters for row in chapter]

    def book(self):
        """Tuples (number, "begun"), (number, "over") and (number, "refused"), as it went."""
        return list(self.book_rows)

    def copied(self):
        """A run of its own that stands as this one, while it is busy as this one stood ahead of the moment."""
        twin = EventRun(self.design, rule=self.rule)
        twin.standing = dict(self.standing)
        twin.last_time = self.last_time
        twin.chapters = list(self.chapters)
        twin.last_things = list(self.last_things)
        twin.many_over = self.many_over
        # While it is busy the last row is the beginning of the moment.
        twin.book_rows = list(self.book_rows) if self.course is None else self.book_rows[:-1]
        return twin
