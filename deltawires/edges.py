"""The edges that wake blocks."""

# The sign of the trigger ahead of the edge, and the one behind it.
EDGES = {"rise": "01", "fall": "10"}


def is_edge(edge, ahead, now):
    """Whether a trigger that went from the one sign to the other had this edge."""
    return ahead + now == EDGES[edge]


def woken(blocks, ahead, now):
    """The blocks whose trigger had their edge from the one dict of values to the other, in order."""
    return [row for row in blocks if is_edge(row[1], ahead[row[2]], now[row[2]])]
