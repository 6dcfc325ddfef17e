"""Designs, moments and orders that are drawn for event runs."""

from drawing import drawn_blocks, drawn_body, drawn_signals, small_term
from eventoracles import is_chain_of, origins_of, races_of
from samples import drawn_value


def drawn_lively(source):
    """Signals and blocks of which many wake one another, by "now" and by "later"."""
    signals = drawn_signals(source, inputs=2, kept=source.randrange(2, 5), wires=source.randrange(0, 4),
                            filters=source.randrange(0, 2))
    widths = {row[1]: row[2] for row in signals}
    bits = [row[1] for row in signals if row[0] == "kept" and row[2] == 1]
    kinds = {row[1]: source.choice(["now", "later"]) for row in signals if row[0] == "kept"}
    blocks = [("go1", "rise", "i0", ((kinds[bits[0]], bits[0], ("not", ("of", bits[0]))),))]
    if source.random() < 0.25:
        turn = ((kinds[bits[0]], bits[0], ("not", ("of", bits[0]))),)
        blocks += [("up", "rise", bits[0], turn), ("down", "fall", bits[0], turn)]
    for at in range(source.randrange(1, 4)):
        trigger = source.choice(bits + [name for name in widths if widths[name] == 1])
        body = drawn_body(source, widths, kinds, 1, [6])
        if source.random() < 0.6:
            name = source.choice(bits)
            body += ((kinds[name], name, ("not", ("of", name))),)
        blocks.append((f"b{at}", source.choice(["rise", "fall"]), trigger, body))
    return signals, blocks


def drawn_any(source):
    if source.random() < 0.5:
        return drawn_lively(source)
    signals = drawn_signals(source, wires=source.randrange(0, 5), filters=source.randrange(0, 3))
    return signals, drawn_blocks(source, signals, source.randrange(1, 5))


def drawn_calm(source, rule):
    """Signals and blocks without a race under the rule, some of them awake by what is set "later"."""
    while True:
        signals = drawn_signals(source, inputs=source.randrange(1, 4), kept=source.randrange(2, 5),
                                wires=source.randrange(0, 5), filters=source.randrange(0, 3))
        blocks = calm_blocks(source, signals, rule)
        if blocks and not races_of(signals, blocks, rule):
            return signals, blocks


def calm_blocks(source, signals, rule):
    rows = {row[1]: row for row in signals}
    kept = [row[1] for row in signals if row[0] == "kept"]
    kinds = {name: source.choice(["now", "later", "later"]) for name in kept}
    many = source.randrange(1, 4)
    owners = {name: source.randrange(many) for name in kept}

    def comes_from_now(name, owner):
        return any(kinds.get(origin) == "now" and owners[origin] != owner for origin in origins_of(rows, name))

    triggers = [name for name in rows if rows[name][2] == 1 and is_chain_of(rows, name)
                and not comes_from_now(name, -1)]
    blocks = []
    for at in range(many):
        own = {name: kinds[name] for name in kept if owners[name] == at}
        seen = {
            name: rows[name][2] for name in rows
            if not comes_from_now(name, at) and (rule != "free" or rows[name][0] in ("input", "kept"))
        }
        if own and triggers:
            told = [name for name in triggers if kinds.get(name) == "later"]
            trigger = source.choice(triggers + told * 3 + ["i0"])
            body = drawn_body(source, seen, own, 1, [8])
            for name in own:
                term = ("not", ("of", name)) if source.random() < 0.5 else small_term(source, seen, rows[name][2])
                body += ((own[name], name, term),)
            blocks.append((f"b{at}", source.choice(["rise", "fall"]), trigger, body))
    return blocks


def drawn_put(source, signals, signs="01"):
    """Changes of some inputs, the first one's more often."""
    return {
        row[1]: drawn_value(source, row[2], signs)
        for row in signals if row[0] == "input" and (row[1] == "i0" or source.random() < 0.5)
    }


def drawn_order(source):
    numbers = [source.choice([0, 1, 2, 3, -1, -2, 7, 10 ** 30, -10 ** 30 - 1]) for _ in range(source.choice([0, 3, 30]))]
    return numbers if source.random() < 0.5 else tuple(numbers)
