"""A desk: it is told rows of text, and answers with texts."""

from deltawires.both import Both
from deltawires.changes import checked_changes
from deltawires.configurations import SETTLED, begun
from deltawires.designtexts import design_text
from deltawires.errors import NoRow, TooMany
from deltawires.figures import is_whole_text, whole_of
from deltawires.histories import wave_of
from deltawires.orders import ends
from deltawires.races import races
from deltawires.terms import is_name

WORDS_ALONE = ("all", "back", "races", "ends", "text")
WORDS_OF_A_NAME = ("show", "wave")


def is_known(words):
    """Whether words, none of them without a sign, make a row that a desk knows."""
    word, *more = words
    if word == "go":
        return all([is_whole_text(number) for number in more])
    if word == "set":
        return len(more) == 2 and is_name(more[0])
    if word in WORDS_OF_A_NAME:
        return len(more) == 1 and is_name(more[0])
    return word in WORDS_ALONE and len(more) == 0


def words_of(row):
    """The words of a row, or NoRow, whatever it is."""
    if not isinstance(row, str):
        raise NoRow("it is no text")
    words = row.split(" ")
    if "" in words or not is_known(words):
        raise NoRow("it is no row that a desk knows")
    return words


def moment_text(told):
    """What is told of a moment of both runs, as words."""
    word, what = told
    return " ".join([word] + what) if word == "apart" else word + " " + str(what)


def set_answer(desk, words):
    desk.wanted = {**desk.wanted, **checked_changes(desk.design, {words[1]: words[2]})}
    return "ok"


def go_answer(desk, words):
    ahead = desk.both.copied()
    told = desk.both.moment(desk.wanted, order=[whole_of(word) for word in words[1:]])
    if told[0] == "alike":
        desk.past.append(ahead)
        desk.wanted = {}
    return moment_text(told)


def show_answer(desk, words):
    return desk.both.net_run().value(words[1])


def all_answer(desk, words):
    values = desk.both.all_values()
    return " ".join([name + "=" + values[name] for name in values])


def back_answer(desk, words):
    if not desk.past:
        return "none"
    desk.both = desk.past.pop()
    return "ok"


def races_answer(desk, words):
    found = races(desk.design, rule=desk.rule)
    return "; ".join([" ".join([word for word in race if word != ""]) for race in found]) if found else "none"


def ends_answer(desk, words):
    here = begun(desk.design, desk.both.all_values(), desk.wanted)
    try:
        return ends(desk.design, here, rule=desk.rule)[0]
    except TooMany:
        return "many"


def wave_answer(desk, words):
    wave = wave_of(desk.both.event_run(), words[1])
    return " ".join([f"{time}:{value}" for time, value in wave])


def text_answer(desk, words):
    return design_text(desk.design)


ANSWERS = {
    "set": set_answer,
    "go": go_answer,
    "show": show_answer,
    "all": all_answer,
    "back": back_answer,
    "races": races_answer,
    "ends": ends_answer,
    "wave": wave_answer,
    "text": text_answer,
}


class Desk:
    """A design with both its runs, what is set for the next moment, and what was ahead of each moment."""

    def __init__(self, design, *, rule=SETTLED):
        self.design = design
        self.rule = rule
        self.both = Both(design, rule=rule)
        self.wanted = {}
        self.past = []

    def say(self, row):
        """The answer to a row; NoRow, NoName, NoValue."""
        words = words_of(row)
        action = ANSWERS[words[0]]
        return action(self, words)
