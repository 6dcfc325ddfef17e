"""Terms, bodies and designs that are drawn, each within the bounds of the document."""

from samples import drawn_value

ONE_BIT = ("same", "less", "any", "all")
A = ("of", "a")
ZERO = ("is", "0")
PAIRED = ("and", "or", "xor", "plus", "same", "less")
WITHIN = {"not": 1, "any": 1, "all": 1, **{word: 2 for word in PAIRED}, "join": 2, "pick": 3}
NO_NAMES = (*WITHIN, "part", "is", "of", "at", "filters", "later")


def nested(many, inner=A):
    """A term with so many tuples, each within the one ahead of it."""
    for _ in range(many - 1):
        inner = ("not", inner)
    return inner


def fan(many):
    """A term of so many tuples, few of them within one another."""
    terms = [A] * ((many + 1) // 2)
    while len(terms) > 1:
        pairs = [("and", *terms[at:at + 2]) for at in range(0, len(terms) - 1, 2)]
        terms = pairs + terms[len(pairs) * 2:]
    return terms[0] if many % 2 else ("not", terms[0])


def depth_of(term):
    return 1 + max([depth_of(part) for part in term if isinstance(part, tuple)], default=0)


def tuples_of(term):
    return 1 + sum([tuples_of(part) for part in term if isinstance(part, tuple)])


def drawn_leaf(source, widths, width):
    fitting = [name for name in widths if widths[name] == width]
    if fitting and source.random() < 0.75:
        return ("of", source.choice(fitting))
    wider = [name for name in widths if widths[name] > width]
    if wider and source.random() < 0.6:
        name = source.choice(wider)
        low = source.randrange(widths[name] - width + 1)
        return ("part", ("of", name), low + width - 1, low)
    return ("is", drawn_value(source, width, source.choice(["01", "01", "01x"])))


def drawn_term(source, widths, width, deep=3):
    """A term of that width over names with widths, about so deep."""
    if deep <= 1 or source.random() < 0.15:
        return drawn_leaf(source, widths, width)
    choices = ["not", "and", "or", "xor", "plus", "pick", "part"]
    if width == 1:
        choices += ONE_BIT
    if width > 1:
        choices += ["join", "join"]
    word = source.choice(choices)
    if word in ONE_BIT:
        inner = source.choice([1, 2, 2, 3])
        many = 1 if word in ("any", "all") else 2
        return (word, *[drawn_term(source, widths, inner, deep - 1) for _ in range(many)])
    if word == "join":
        first = source.randrange(1, width)
        return ("join", drawn_term(source, widths, first, deep - 1),
                drawn_term(source, widths, width - first, deep - 1))
    if word == "part":
        more = source.randrange(0, max(1, 5 - width))
        low = source.randrange(more + 1)
        return ("part", drawn_term(source, widths, width + more, deep - 1), low + width - 1, low)
    if word == "pick":
        return ("pick", *[drawn_term(source, widths, wide, deep - 1) for wide in (1, width, width)])
    many = 1 if word == "not" else 2
    return (word, *[drawn_term(source, widths, width, deep - 1) for _ in range(many)])


def drawn_great_term(source, widths, width, least):
    """A term of at least so many tuples, within the bounds."""
    while True:
        term = drawn_term(source, widths, width, deep=7)
        if least <= tuples_of(term) <= 60 and depth_of(term) <= 10:
            return term


def small_term(source, widths, width):
    """A term that stays well within the bounds of sixty and ten."""
    while True:
        term = drawn_term(source, widths, width, deep=source.choice([1, 2, 3, 3, 4]))
        if tuples_of(term) <= 60:
            return term


def drawn_bus(source, widths, width):
    return tuple([
        (small_term(source, widths, 1), small_term(source, widths, width)) for _ in range(source.randrange(2, 5))
    ])


def drawn_body(source, widths, kinds, deep, room):
    """A body that sets by kinds, a dict from kept names to now or later; room is a list of how many are left."""
    body = []
    for _ in range(source.choice([0, 1, 1, 2, 2, 3])):
        if room[0] == 0:
            break
        room[0] -= 1
        if deep < 4 and source.random() < 0.4:
            bodies = [drawn_body(source, widths, kinds, deep + 1, room) for _ in range(2)]
            body.append(("if", small_term(source, widths, 1), *bodies))
        else:
            name = source.choice(list(kinds))
            body.append((kinds[name], name, small_term(source, widths, widths[name])))
    return tuple(body)


def drawn_signals(source, inputs=3, kept=3, wires=3, filters=1):
    """Rows of signals in any order of the list, none of them hanging on itself, and no filter on a filter."""
    widths = {}
    rows = []
    free_of_filters = {}

    def add(sort, name, width, what):
        widths[name] = width
        rows.append((sort, name, width, what))

    for at in range(inputs):
        add("input", f"i{at}", 1 if at == 0 else source.choice([1, 1, 2, 3]), None)
    for at in range(kept):
        width = 1 if at == 0 else source.choice([1, 2, 3])
        add("kept", f"k{at}", width, drawn_value(source, width, source.choice(["01", "01", "01x"])))
    free_of_filters.update(widths)
    for at in range(filters):
        add("filter", f"f{at}", 1, small_term(source, free_of_filters, 1))
    for at in range(wires):
        width = source.choice([1, 1, 2, 3])
        sort = source.choice(["wire", "wire", "bus"])
        known = dict(widths)
        what = drawn_bus(source, known, width) if sort == "bus" else small_term(source, known, width)
        add(sort, f"w{at}", width, what)
    source.shuffle(rows)
    return rows


def drawn_blocks(source, signals, many, apart=False):
    """Blocks over these signals; apart: no two of them set one signal."""
    widths = {row[1]: row[2] for row in signals}
    kept = [row[1] for row in signals if row[0] == "kept"]
    kinds = {name: source.choice(["now", "later", "later"]) for name in kept}
    triggers = [name for name in widths if widths[name] == 1]
    blocks = []
    for at in range(many):
        own = {name: kinds[name] for place, name in enumerate(kept) if not apart or place % many == at}
        if not own:
            continue
        trigger = "i0" if source.random() < 0.6 else source.choice(triggers)
        body = drawn_body(source, widths, own, 1, [20])
        blocks.append((f"b{at}", source.choice(["rise", "rise", "fall"]), trigger, body))
    return blocks


def drawn_given(source, signals, signs="01x"):
    return {row[1]: drawn_value(source, row[2], signs) for row in signals if row[0] in ("input", "kept")}


def drawn_changes(source, signals, signs, at):
    """Changes for the moment with this number; the input i0, which is most blocks' trigger, goes up and down."""
    rows = [row for row in signals if row[0] == "input"]
    if at == 0 and source.random() < 0.7:
        return {row[1]: drawn_value(source, row[2], "01") for row in rows}
    changes = {row[1]: drawn_value(source, row[2], signs) for row in rows if source.random() < 0.5}
    if source.random() < 0.9:
        changes["i0"] = "01"[at % 2]
    return changes
