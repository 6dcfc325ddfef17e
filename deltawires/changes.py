"""What is put into a design at the beginning of a moment."""

from deltawires.bits import is_put_value
from deltawires.errors import NoName, NoValue


def checked_changes(design, changes):
    """A dict of the changes, none where they are None; NoName and NoValue where they are wrong."""
    wanted = {} if changes is None else changes
    inputs = design.names(sort="input")
    # All names are looked at ahead of all values, as the names' refusal goes first.
    for name in wanted:
        if name not in inputs:
            raise NoName(name)
    for name in wanted:
        if not is_put_value(wanted[name], width=design.width_of_signal(name)):
            raise NoValue("it is no value of the input's width without z")
    return {name: wanted[name] for name in wanted}
