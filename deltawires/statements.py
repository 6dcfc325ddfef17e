"""Bodies of blocks: tuples of statements, some of them within others."""

from deltawires.terms import every_name, has_width

MOST_STATEMENTS = 20
DEEPEST_STATEMENT = 4


def is_shell_statement(thing, widths, kept):
    """Whether a thing is a statement, whatever stands in the bodies within it."""
    if not isinstance(thing, tuple) or not 3 <= len(thing) <= 4 or not isinstance(thing[0], str):
        return False
    if thing[0] == "if":
        bodies = thing[2:]
        return len(thing) == 4 and has_width(thing[1], widths, 1) and all([isinstance(body, tuple) for body in bodies])
    if thing[0] not in ("now", "later") or len(thing) != 3:
        return False
    name = thing[1]
    return isinstance(name, str) and name in kept and has_width(thing[2], widths, widths[name])


def bodies_of(statement):
    """The two bodies of an if, of another statement none."""
    return list(statement[2:]) if statement[0] == "if" else []


def is_body(thing, widths, kept):
    """Whether a thing is a body, by all signals' widths and a list of the kept ones' names."""
    if not isinstance(thing, tuple):
        return False
    level = list(thing)
    many = 0
    # Level by level, so that nothing is looked at beyond the bounds, however often one tuple stands in others.
    for turn in range(DEEPEST_STATEMENT):
        many += len(level)
        if many > MOST_STATEMENTS or not all([is_shell_statement(inner, widths, kept) for inner in level]):
            return False
        level = [inner for statement in level for body in bodies_of(statement) for inner in body]
        if not level:
            return True
    return False


def every_statement(body):
    """All statements of a body, those within others too."""
    found = []
    for statement in body:
        found.append(statement)
        for inner in bodies_of(statement):
            found.extend(every_statement(inner))
    return found


def names_set(body, word):
    """The names that a body sets anywhere by now or by later, the word told, each as often as it stands."""
    return [statement[1] for statement in every_statement(body) if statement[0] == word]


def names_set_by(blocks, word):
    """The names that the bodies of all blocks set anywhere by the word, each as often as it stands."""
    return [name for row in blocks for name in names_set(row[3], word)]


def term_of(statement):
    return statement[1] if statement[0] == "if" else statement[2]


def names_read(body):
    """The names that stand in a body's terms, each as often as it stands."""
    return [name for statement in every_statement(body) for name in every_name(term_of(statement))]


def behind_if(statement, values, ahead, told, chosen):
    """As behind_body, for an if alone."""
    word, term, first, second = statement
    choice = told(term, {**values, **ahead[0]})
    # What a term is in gates is neither sign, so that there both bodies are gone through.
    if choice == "1":
        return behind_body(first, values, ahead, told, chosen)
    if choice == "0":
        return behind_body(second, values, ahead, told, chosen)
    one = behind_body(first, values, ahead, told, chosen)
    other = behind_body(second, values, ahead, told, chosen)
    return chosen(choice, one[0], other[0], values), chosen(choice, one[1], other[1], values)


def behind_body(body, values, ahead, told, chosen):
    """A tuple of two dicts, of what is set now and of what is told for later, behind a body.

    Values and gates go the same way through a body: told gives what a term is where things stand, chosen what is
    behind an if that goes either way, by what its term is and by a dict behind each of its bodies. Ahead are the two
    dicts ahead of the body, which are not changed.
    """
    now = dict(ahead[0])
    later = dict(ahead[1])
    for statement in body:
        if statement[0] == "if":
            now, later = behind_if(statement, values, (now, later), told, chosen)
        elif statement[0] == "now":
            now[statement[1]] = told(statement[2], {**values, **now})
        else:
            later[statement[1]] = told(statement[2], {**values, **now})
    return now, later
