"""What the body of a block does."""

from deltawires.bits import mixed
from deltawires.statements import behind_body
from deltawires.terms import value_of_term


def mixed_values(choice, one, other, values):
    """What is behind an if whose term, the choice, is unknown, by the dicts behind its bodies."""
    either = {**one, **other}
    return {name: mixed(one.get(name, values[name]), other.get(name, values[name])) for name in either}


def body_done(body, values):
    """Two dicts, of what a body sets now and of what it tells for later, by the values of all signals."""
    return behind_body(body, values, ({}, {}), value_of_term, mixed_values)
