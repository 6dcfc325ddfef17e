"""Points [18] to [22], reckoned from their words alone, slowly: the tests hold the program against it."""

from oracles import (
    EDGES, Refused, bus_value, done_body, row_names, row_terms, settled_values, statements_within, term_names, term_value,
)


class Machine:
    """A design's configurations, as points [18] and [19] tell of them."""

    def __init__(self, signals, blocks):
        self.signal_rows = signals
        self.block_rows = blocks
        self.rows = {row[1]: row for row in signals}
        self.order = [row[1] for row in signals]
        self.blocks_by_name = {block[0]: block for block in blocks}

    def of_sorts(self, *sorts):
        return [name for name in self.order if self.rows[name][0] in sorts]

    def reckoned(self, name, values):
        sort, _, _, what = self.rows[name]
        return bus_value(what, values) if sort == "bus" else term_value(what, values)

    def put(self, state, new):
        """What is pending and awake behind new values, set all at once; a state is a list of four."""
        values, pending, awake, told = state
        changed = {name for name in new if new[name] != values[name]}
        now = {name: new.get(name, values[name]) for name in self.order}
        pending = pending | {wire for wire in self.of_sorts("wire", "bus") if changed & set(row_names(self.rows[wire]))}
        awake = awake | {
            block[0] for block in self.block_rows
            if block[2] in changed and (block[1], values[block[2]], now[block[2]]) in EDGES
        }
        return [now, pending, awake, told]

    def opened(self, configuration):
        values, pending, awake, told = configuration
        return [dict(zip(self.order, values)), set(pending), set(awake), dict(told)]

    def closed(self, state):
        values, pending, awake, told = state
        return (
            tuple(values[name] for name in self.order),
            tuple(name for name in self.order if name in pending),
            tuple(block[0] for block in self.block_rows if block[0] in awake),
            tuple((name, told[name]) for name in self.order if name in told),
        )

    def begun(self, values, changes):
        return self.closed(self.put([values, set(), set(), {}], changes))

    def filter_news(self, values):
        news = {name: self.reckoned(name, values) for name in self.of_sorts("filter")}
        return {name: value for name, value in news.items() if value != values[name]}

    def doable(self, configuration, rule):
        values, _, _, told = self.opened(configuration)
        _, pending, awake, _ = configuration
        steps = [list(pending), ["filters"] if self.filter_news(values) else [], list(awake)]
        if rule == "free":
            steps = [list(pending) + list(awake), steps[1]]
        for step in steps + [["later"] if told else []]:
            if step:
                return step
        return []

    def done(self, configuration, thing):
        values, pending, awake, told = self.opened(configuration)
        if thing == "filters":
            return self.closed(self.put([values, pending, awake, told], self.filter_news(values)))
        if thing == "later":
            return self.closed(self.put([values, pending, awake, {}], told))
        if thing in pending:
            return self.closed(
                self.put([values, pending - {thing}, awake, told], {thing: self.reckoned(thing, values)})
            )
        if thing not in awake:
            raise KeyError(thing)
        now, later = done_body(self.blocks_by_name[thing][3], values)
        return self.closed(self.put([values, pending, awake - {thing}, {**told, **later}], now))


class Events:
    """Point [20]: an event run, with its story and book."""

    def __init__(self, signals, blocks, rule):
        self.machine = Machine(signals, blocks)
        self.rule = rule
        first = {row[1]: "x" * row[2] if row[0] == "input" else row[3] for row in signals
                 if row[0] in ("input", "kept")}
        self.now = settled_values(signals, first)
        self.told_story = [(0, name, self.now[name]) for name in self.now]
        self.told_book = []
        self.last = []
        self.over = 0
        self.time = 0

    def news(self, time, ahead, behind):
        return [
            (time, name, new) for name, old, new in zip(self.machine.order, ahead, behind) if new != old
        ]

    def moment(self, changes, order, limit, things):
        number = len(self.told_book) // 2
        self.told_book.append((number, "begun"))
        ahead = tuple(self.now.values())
        here = self.machine.begun(self.now, changes)
        story = self.news(self.time + 1, ahead, here[0])
        numbers, names, deltas, since = list(order), [], 0, 0
        while choices := self.machine.doable(here, self.rule):
            thing = choices[numbers.pop(0) % len(choices) if len(choices) > 1 and numbers else 0]
            there = self.machine.done(here, thing)
            if thing == "later":
                deltas, since = deltas + (there[0] != here[0]), 0
            else:
                since += 1
            if deltas > limit or since > things:
                self.told_book.append((number, "refused"))
                raise Refused(min(deltas, limit))
            names.append(thing)
            story += self.news(self.time + 1 + len(names), here[0], there[0])
            here = there
        self.told_book.append((number, "over"))
        self.now = dict(zip(self.machine.order, here[0]))
        self.told_story += story
        self.last = names
        self.over += 1
        self.time += 1 + len(names)
        return deltas


def origins_of(rows, name):
    """Point [12], as a set."""
    if rows[name][0] in ("input", "kept"):
        return {name}
    return set().union(*[origins_of(rows, other) for other in row_names(rows[name])])


def is_chain_of(rows, name):
    if rows[name][0] in ("input", "kept", "filter"):
        return True
    names = row_names(rows[name])
    return len(names) == 1 and is_chain_of(rows, names[0])


def body_names(body):
    return [
        name for part in statements_within(body) for name in term_names(part[1] if part[0] == "if" else part[2])
    ]


def sets_of(body, *words):
    return {part[1] for part in statements_within(body) if part[0] in words}


def races_of(signals, blocks, rule):
    """Point [21]."""
    rows = {row[1]: row for row in signals}
    found = []
    for name in [row[1] for row in signals if row[0] == "kept"]:
        for first in range(len(blocks)):
            for second in range(first + 1, len(blocks)):
                if all(name in sets_of(blocks[at][3], "now", "later") for at in (first, second)):
                    found.append(("twice", blocks[first][0], blocks[second][0], name))
    for block in blocks:
        for name in [row[1] for row in signals if row[1] in sets_of(block[3], "now")]:
            for other in blocks:
                read = set(body_names(other[3])) if other[0] != block[0] else set()
                if any(name in origins_of(rows, seen) for seen in read | {other[2]}):
                    found.append(("seen", block[0], other[0], name))
    found += [("glitch", block[0], "", block[2]) for block in blocks if not is_chain_of(rows, block[2])]
    if rule == "free":
        for block in blocks:
            for row in signals:
                if row_terms(row) and row[1] in body_names(block[3]):
                    found.append(("early", block[0], "", row[1]))
    return found


def reached_from(machine, first, rule, most):
    """A dict from each configuration that one can come to, to those straight behind it; None beyond the most."""
    found, left = {first: None}, [first]
    while left:
        here = left.pop(0)
        found[here] = [machine.done(here, thing) for thing in machine.doable(here, rule)]
        for there in found[here]:
            if there not in found:
                found[there] = None
                left.append(there)
        if len(found) > most:
            return None
    return found


def ending_of(machine, first, rule, most):
    """Point [22]: the word alone, or "many"."""
    found = reached_from(machine, first, rule, most)
    if found is None:
        return "many"
    left = dict(found)
    while True:
        # What leads nowhere, or only to what has been taken away, is on no way back to itself.
        gone = [here for here in left if not any(there in left for there in left[here])]
        if not gone:
            break
        for here in gone:
            del left[here]
    if left:
        return "endless"
    return "alike" if len({here[0] for here in found if not found[here]}) == 1 else "parted"


def walked(machine, first, rule, things):
    """Where things lead that are each doable when they are done; None where one isn't."""
    here = first
    for thing in things:
        if thing not in machine.doable(here, rule):
            return None
        here = machine.done(here, thing)
    return here
