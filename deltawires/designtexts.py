"""Designs as texts, and back."""

from deltawires.designs import Design
from deltawires.errors import Clash, NoText
from deltawires.statements import DEEPEST_STATEMENT
from deltawires.termtexts import read_term, term_text

STEP = "  "
WIDTH_FIGURES = "12345678"


def driver_text(driver):
    return term_text(driver[0]) + ": " + term_text(driver[1])


def what_words(sort, what):
    """What stands behind the width of a signal, as a list of one text or none."""
    if sort == "input":
        return []
    if sort == "kept":
        return [what]
    if sort == "bus":
        return ["; ".join([driver_text(driver) for driver in what])]
    return [term_text(what)]


def signal_line(row):
    sort, name, width, what = row
    return " ".join([sort, name, str(width)] + what_words(sort, what))


def body_lines(body, lead):
    """The lines of a body, the blanks in the lead ahead of each."""
    lines = []
    for statement in body:
        if statement[0] == "if":
            lines.append(lead + "if " + term_text(statement[1]))
            lines.extend(body_lines(statement[2], lead + STEP))
            lines.append(lead + "else")
            lines.extend(body_lines(statement[3], lead + STEP))
        else:
            lines.append(lead + " ".join([statement[0], statement[1], term_text(statement[2])]))
    return lines


def block_lines(row):
    name, edge, trigger, body = row
    return [" ".join(["block", name, edge, trigger])] + body_lines(body, STEP)


def design_text(design):
    """The design as a text."""
    lines = [signal_line(row) for row in design.signals()]
    for row in design.blocks():
        lines.extend(block_lines(row))
    return "".join([line + "\n" for line in lines])


def read_driver(text):
    terms = text.split(": ")
    if len(terms) != 2:
        raise NoText("a driver has two terms")
    return read_term(terms[0]), read_term(terms[1])


def read_what(sort, text):
    if sort == "kept":
        return text
    if sort == "bus":
        return tuple([read_driver(driver) for driver in text.split("; ")])
    return read_term(text)


def read_signal(line):
    words = line.split(" ", 3)
    if len(words) != (3 if words[0] == "input" else 4):
        raise NoText("a signal has other words")
    sort, name, figure = words[:3]
    if len(figure) != 1 or figure not in WIDTH_FIGURES:
        raise NoText("a signal has no such width")
    return sort, name, int(figure), None if sort == "input" else read_what(sort, words[3])


def line_at(lines, at):
    """The line with this number, behind the last one a text without signs."""
    return lines[at] if at < len(lines) else ""


def read_setting(line):
    words = line.split(" ", 2)
    if len(words) != 3:
        raise NoText("a statement has other words")
    return words[0], words[1], read_term(words[2])


def read_if(lines, at, deep):
    """The if whose line has this number, and the number of the line behind it."""
    lead = STEP * deep
    term = read_term(lines[at][len(lead + "if "):])
    first, behind = read_body(lines, at + 1, deep + 1)
    if line_at(lines, behind) != lead + "else":
        raise NoText("an if has no else")
    second, behind = read_body(lines, behind + 1, deep + 1)
    return ("if", term, first, second), behind


def read_body(lines, at, deep):
    """The body whose lines begin with this number, so deep within others, and the number of the line behind it."""
    lead = STEP * deep
    body = []
    while line_at(lines, at).startswith(lead):
        if deep > DEEPEST_STATEMENT:
            raise NoText("too many statements within one another")
        if lines[at].startswith(lead + "if "):
            statement, at = read_if(lines, at, deep)
        else:
            statement = read_setting(lines[at][len(lead):])
            at += 1
        body.append(statement)
    return tuple(body), at


def read_block(lines, at):
    """The block whose first line has this number, and the number of the line behind it."""
    words = lines[at].split(" ")
    if len(words) != 4 or words[0] != "block":
        raise NoText("a block has other words")
    body, behind = read_body(lines, at + 1, 1)
    return (words[1], words[2], words[3], body), behind


def read_rows(lines):
    """The rows of the signals and of the blocks that the lines tell."""
    signals = []
    blocks = []
    at = 0
    while at < len(lines) and not lines[at].startswith("block "):
        signals.append(read_signal(lines[at]))
        at += 1
    while at < len(lines):
        block, at = read_block(lines, at)
        blocks.append(block)
    return signals, blocks


def read_design(text):
    """The design that is written so; NoText where there is none."""
    if not isinstance(text, str):
        raise NoText("it is no text")
    signals, blocks = read_rows(text.split("\n")[:-1])
    try:
        design = Design(signals, blocks)
    except Clash:
        raise NoText("the lines tell no design")
    # What was read too kindly above, such as a last line without its line feed, shows here.
    if design_text(design) != text:
        raise NoText("no design is written so")
    return design
