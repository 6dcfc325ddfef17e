"""The errors of the package. The texts hold no numbers, since a great one cannot be written out."""


class WireError(ValueError):
    """What was handed in is not as it has to be."""


class NoValue(WireError):
    """It is no value, or none of the width asked for."""


class NoNumber(WireError):
    """A value has a bit that is not told, so it writes no number."""


class NoTerm(WireError):
    """It is no term, or one that does not fit the widths."""


class NoText(WireError):
    """It is not what would be written of anything."""


class NoRow(WireError):
    """It is no row that a desk knows."""


class Clash(WireError):
    """Signals and blocks make no design: kind tells why, who tells where."""

    def __init__(self, kind, who):
        super().__init__(f"{kind}: {who}")
        self.kind = kind
        self.who = who


class NoName(LookupError):
    """Nothing has the name who."""

    def __init__(self, who):
        super().__init__(f"no such name: {who}")
        self.who = who


class Unending(RuntimeError):
    """A moment went beyond a limit, behind so many deltas."""

    def __init__(self, deltas):
        super().__init__("the moment goes beyond its limit")
        self.deltas = deltas


class Busy(RuntimeError):
    """A moment of the run is under way."""


class TooMany(ArithmeticError):
    """There are more configurations than the limit."""

    def __init__(self, limit):
        super().__init__("more configurations than the limit")
        self.limit = limit
