"""The edges that wake blocks."""

# The sign of the trigger ahead of the edge, and the one behind it.
EDGES = {"rise": "01", "fall": "10"}


def is_edge(edge, ahead, now):
    """Whether a trigger that went from the one sign to the other had this edge."""
    return ahead + now == EDGES[edge]
