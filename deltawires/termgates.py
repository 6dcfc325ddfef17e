"""Terms as gates. Gates go by numbers; a list of numbers stands for a value, the highest bit's first."""

from deltawires.tables import join_value, part_value
from deltawires.terms import arguments_of


class GateList:
    """The gates so far, each once."""

    def __init__(self):
        self.made = []
        self.number_by_gate = {}

    def put(self, gate):
        """The number of a gate, which is made where there is none like it."""
        if gate not in self.number_by_gate:
            self.number_by_gate[gate] = len(self.made)
            self.made.append(gate)
        return self.number_by_gate[gate]

    def read_gate(self, number):
        """A gate with the read sign of another one; those of buses alone may have z."""
        return self.put(("read", number)) if self.made[number][0] == "bus" else number


def put_each(found, word, ones, others):
    """One gate of two for each bit."""
    return [found.put((word, one, other)) for one, other in zip(ones, others)]


def put_chain(found, word, numbers):
    """The gate of all numbers together, as two of them have one."""
    last = numbers[0]
    for number in numbers[1:]:
        last = found.put((word, last, number))
    return last


def not_gates(found, ones):
    return [found.put(("not", one)) for one in ones]


def and_gates(found, ones, others):
    return put_each(found, "and", ones, others)


def or_gates(found, ones, others):
    return put_each(found, "or", ones, others)


def xor_gates(found, ones, others):
    return put_each(found, "xor", ones, others)


def plus_gates(found, ones, others):
    carry = found.put(("is", "0"))
    sums = []
    for one, other in zip(ones[::-1], others[::-1]):
        half = found.put(("xor", one, other))
        sums.append(found.put(("xor", half, carry)))
        carry = found.put(("most", one, other, carry))
    return sums[::-1]


def less_gates(found, ones, others):
    """What is borrowed, from the lowest bit on, where the other is taken from the one."""
    borrow = found.put(("is", "0"))
    for one, other in zip(ones[::-1], others[::-1]):
        borrow = found.put(("most", found.put(("not", one)), other, borrow))
    return [borrow]


def same_gates(found, ones, others):
    return not_gates(found, any_gates(found, xor_gates(found, ones, others)))


def any_gates(found, ones):
    return [put_chain(found, "or", ones)]


def all_gates(found, ones):
    return [put_chain(found, "and", ones)]


def pick_gates(found, choice, ones, others):
    return [found.put(("pick", choice[0], one, other)) for one, other in zip(ones, others)]


def join_gates(found, ones, others):
    return join_value(ones, others)


GATE_ACTIONS = {
    "not": not_gates,
    "and": and_gates,
    "or": or_gates,
    "xor": xor_gates,
    "plus": plus_gates,
    "same": same_gates,
    "less": less_gates,
    "any": any_gates,
    "all": all_gates,
    "pick": pick_gates,
    "join": join_gates,
}


def term_gates(found, term, outlets):
    """The gates of a term, put into a GateList, by a dict from names to their gates."""
    word = term[0]
    if word == "is":
        return [found.put(("is", sign)) for sign in term[1]]
    if word == "of":
        return [found.read_gate(number) for number in outlets[term[1]]]
    inside = [term_gates(found, argument, outlets) for argument in arguments_of(term)]
    if word == "part":
        return part_value(inside[0], term[2], term[3])
    action = GATE_ACTIONS[word]
    return action(found, *inside)
