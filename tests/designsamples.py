"""Designs that several tests draw on."""

A, B, C, K, Q, W = [("of", name) for name in ("a", "b", "c", "k", "q", "w")]
CLK = ("of", "clk")
ONE = ("is", "1")
ZERO = ("is", "0")

# One of each sort, and of each statement; nothing hangs together wrongly.
SIGNALS = [
    ("input", "clk", 1, None),
    ("input", "d", 4, None),
    ("wire", "w", 4, ("plus", ("of", "q"), ("of", "d"))),
    ("filter", "f", 1, ("not", CLK)),
    ("bus", "b", 4, ((CLK, ("of", "q")), (("any", ("of", "d")), ("is", "1x01")))),
    ("kept", "q", 4, "00x1"),
    ("kept", "n", 1, "0"),
]
BLOCKS = [
    ("up", "rise", "clk", (("later", "q", ("of", "w")), ("now", "n", ("not", ("of", "n"))))),
    ("down", "fall", "f", (
        ("if", ("same", ("of", "q"), ("of", "d")), (
            ("now", "n", ONE),
            ("if", ("of", "n"), (("later", "q", ("of", "b")),), ()),
        ), (
            ("now", "n", ("any", ("of", "d"))),
        )),
    )),
    ("idle", "rise", "n", ()),
]
TEXT = """input clk 1
input d 4
wire w 4 plus(q, d)
filter f 1 not(clk)
bus b 4 clk: q; any(d): '1x01
kept q 4 00x1
kept n 1 0
block up rise clk
  later q w
  now n not(n)
block down fall f
  if same(q, d)
    now n '1
    if n
      later q b
    else
  else
    now n any(d)
block idle rise n
"""


def wire_row(name, *others, width=1):
    """A wire of which each of the others stands in its term."""
    term = ("is", "0" * width)
    for other in others:
        term = ("or", ("of", other), term)
    return ("wire", name, width, term)


def filter_row(name, *others):
    return ("filter", *wire_row(name, *others)[1:])


def bus_row(name, *others):
    """A bus of which the others stand, in turn, in its drivers' whens and terms."""
    whens, terms = others[0::2], others[1::2]
    return ("bus", name, 1, ((wire_row("q", *whens)[3], ONE), (ZERO, wire_row("q", *terms)[3])))


def full_signals():
    """Twenty-four signals, eight wires and buses among them."""
    rows = [("input", f"i{at}", 1 + at % 8, None) for at in range(8)]
    rows += [("kept", f"k{at}", 1 + at % 8, "1" * (1 + at % 8)) for at in range(5)]
    rows += [filter_row(f"f{at}", "i0", "k0") for at in range(3)]
    rows += [wire_row(f"w{at}", "f0", *[f"w{other}" for other in range(at)]) for at in range(4)]
    rows += [bus_row(f"b{at}", "i0", f"w{at}", "k0") for at in range(4)]
    return rows


def full_body():
    """Twenty statements, four of them within one another."""
    deepest = ("if", ONE, (), (("now", "k0", ("of", "i0")),))
    deep = ("if", ONE, (), (("now", "k0", ZERO), ("if", ZERO, (deepest,), (("now", "k0", ONE),))))
    settings = tuple([("later", f"k{1 + at % 4}", ("is", "x" * (2 + at % 4))) for at in range(14)])
    return (deep,) + settings


def full_blocks():
    return [(f"p{at}", ("rise", "fall")[at % 2], ("i0", "w0", "f0", "b0", "k0", "w3")[at], full_body())
            for at in range(6)]
