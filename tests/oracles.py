"""What the document asks for, reckoned from its words alone, slowly: the tests hold the program against it."""

import functools
import itertools

from samples import filled


def written(number, width):
    return format(number, "b").zfill(width)


def bits(rule):
    """What a rule of two truths gives, bit by bit, for two told values."""
    return lambda a, b: "".join([str(int(rule(s == "1", t == "1"))) for s, t in zip(a, b)])


def truth(rule):
    return lambda *values: str(int(rule(*values)))


ON_TOLD = {
    "not": lambda a: written(2 ** len(a) - 1 - int(a, 2), len(a)),
    "and": bits(lambda s, t: s and t),
    "or": bits(lambda s, t: s or t),
    "xor": bits(lambda s, t: s != t),
    "plus": lambda a, b: written((int(a, 2) + int(b, 2)) % 2 ** len(a), len(a)),
    "same": truth(lambda a, b: int(a, 2) == int(b, 2)),
    "less": truth(lambda a, b: int(a, 2) < int(b, 2)),
    "any": truth(lambda a: int(a, 2) > 0),
    "all": truth(lambda a: int(a, 2) == 2 ** len(a) - 1),
    "pick": lambda c, a, b: a if c == "1" else b,
    "join": lambda a, b: a + b,
}


def alike_or_x(told):
    """Bit by bit what all of some values have, else x."""
    return "".join([signs[0] if len(set(signs)) == 1 else "x" for signs in zip(*told)])


def by_fillings(action, values):
    """Where all that the action gives for the fillings is alike, that, else x."""
    return alike_or_x([action(*chosen) for chosen in itertools.product(*[filled(value) for value in values])])


@functools.lru_cache(maxsize=None)
def operator_value(word, *values):
    return by_fillings(ON_TOLD[word], values)


def read_value(value):
    return value.replace("z", "x")


def term_value(term, values):
    """Point [8]: each operator by the fillings of its arguments' values."""
    word = term[0]
    if word == "is":
        return term[1]
    if word == "of":
        return read_value(values[term[1]])
    if word == "part":
        numbered = term_value(term[1], values)[::-1]
        return "".join([numbered[at] for at in range(term[2], term[3] - 1, -1)])
    return operator_value(word, *[term_value(argument, values) for argument in term[1:]])


def mixed_value(one, other):
    return "".join([a if a == b and a in "01" else "x" for a, b in zip(one, other)])


def resolved_value(values):
    told = []
    for signs in zip(*values):
        driving = set(signs) - {"z"}
        told.append("z" if not driving else driving.pop() if len(driving) == 1 else "x")
    return "".join(told)


def bus_value(drivers, values):
    """Point [14]: the drivers resolved, for each way in which the unknown whens may be."""
    whens = [term_value(when, values) for when, _ in drivers]
    terms = [term_value(term, values) for _, term in drivers]
    ways = itertools.product(*[when if when in "01" else "01" for when in whens])
    return alike_or_x([
        resolved_value([term if way == "1" else "z" * len(term) for way, term in zip(chosen, terms)])
        for chosen in ways
    ])


def settled_value(rows, given, name):
    """Point [14], from the signal down to what it hangs on."""
    sort, _, _, what = rows[name]
    if sort in ("input", "kept"):
        return given[name]
    values = {other: settled_value(rows, given, other) for other in row_names(rows[name])}
    return bus_value(what, values) if sort == "bus" else term_value(what, values)


def settled_values(signals, given):
    rows = {row[1]: row for row in signals}
    return {name: settled_value(rows, given, name) for name in rows}


def term_names(term):
    """Every name in a term, from the left, each time that it stands there."""
    if term[0] == "of":
        return [term[1]]
    return [name for part in term[1:] if isinstance(part, tuple) for name in term_names(part)]


def row_terms(row):
    sort, _, _, what = row
    if sort == "bus":
        return [term for driver in what for term in driver]
    return [what] if sort in ("wire", "filter") else []


def row_names(row):
    return [name for term in row_terms(row) for name in term_names(term)]


def done_body(body, values):
    """Point [15], with the signs' dicts handed on as one pair."""
    return done_from(list(body), values, ({}, {}))


def done_from(statements, values, state):
    if not statements:
        return state
    word, *parts = statements[0]
    here = dict(values)
    here.update(state[0])
    told = term_value(parts[0] if word == "if" else parts[1], here)
    if word == "now":
        state = ({**state[0], parts[0]: told}, dict(state[1]))
    elif word == "later":
        state = (dict(state[0]), {**state[1], parts[0]: told})
    elif told in "01":
        state = done_from(list(parts[1 if told == "1" else 2]), values, state)
    else:
        one = done_from(list(parts[1]), values, state)
        other = done_from(list(parts[2]), values, state)
        state = tuple([
            {
                name: mixed_value(first.get(name, values[name]), second.get(name, values[name]))
                for name in set(first) | set(second)
            }
            for first, second in zip(one, other)
        ])
    return done_from(statements[1:], values, state)


def statements_within(body):
    found = []
    for statement in body:
        found.append(statement)
        if statement[0] == "if":
            found.extend(statements_within(statement[2]) + statements_within(statement[3]))
    return found


class Refused(Exception):
    """A moment that goes beyond its limit."""

    def __init__(self, deltas):
        super().__init__(deltas)
        self.deltas = deltas


EDGES = {("rise", "0", "1"), ("fall", "1", "0")}


class Run:
    """Point [17], with everything settled anew from the first on."""

    def __init__(self, signals, blocks):
        self.signals_told = signals
        self.blocks_told = blocks
        first = {row[1]: "x" * row[2] if row[0] == "input" else row[3] for row in signals
                 if row[0] in ("input", "kept")}
        self.now = settled_values(signals, first)
        self.is_clear = True
        self.set_later = {
            statement[1] for block in blocks for statement in statements_within(block[3]) if statement[0] == "later"
        }

    def moment(self, changes, limit):
        course = [self.now, settled_values(self.signals_told, {**self.now, **changes})]
        deltas = 0
        while True:
            ahead, now = course[-2:]
            woken = [block for block in self.blocks_told if (block[1], ahead[block[2]], now[block[2]]) in EDGES]
            if not woken:
                break
            if len(course) - 1 > limit + 1:
                raise Refused(deltas)
            changed = dict(now)
            for block in woken:
                for told in done_body(block[3], now):
                    changed.update(told)
            if any(changed[name] != now[name] for name in self.set_later):
                if deltas == limit:
                    raise Refused(deltas)
                deltas += 1
            course.append(settled_values(self.signals_told, changed))
        self.now = course[-1]
        triggers = [block[2] for block in self.blocks_told]
        self.is_clear = self.is_clear and all(values[name] in ("0", "1") for values in course[1:] for name in triggers)
        return deltas
