"""The steps of a plan, and running them on octets.

A step is one of these tuples; `step` stands for the index of another one:
- ("simple", form): reads a value that is not nested and stays as it is;
- ("to int",), ("to text",), ("to octets",): read a long, bytes or a string, and turn the value;
- ("choice", symbols): reads the index of one of the symbols, which is None if it is unreadable;
- ("array", step) and ("map", step): read an array or a map of what the step reads;
- ("union", steps): reads an index, and by the step there the value, which loses its branch;
- ("branch", index, step): reads a value by the step, and puts it into a branch;
- ("record", rows, parts): reads by each row (step, at) a value, and sets the part at that index, or
  drops the value if the index is None; of the parts that no row sets, the defaults stand there;
- ("unreadable",): there is nothing to read.
"""

from formkeeper.copies import copied
from formkeeper.encoding import (
    INT_END, decode_simple, read_counted, read_index, read_items, read_number, read_pairs, read_string
)
from formkeeper.errors import InvalidData, InvalidText, Unreadable
from formkeeper.shapes import DEEPEST_NESTING, NESTED
from formkeeper.texts import decode_text, encode_text

UNREADABLE = ("unreadable",)


def read_to_int(octets, at):
    number, behind = read_number(octets, at)
    if not -INT_END <= number < INT_END:
        raise Unreadable(at)
    return number, behind


def read_to_text(octets, at):
    taken, behind = read_counted(octets, at)
    try:
        return decode_text(taken), behind
    except InvalidText:
        raise Unreadable(at) from None


def read_to_octets(octets, at):
    text, behind = read_string(octets, at)
    return encode_text(text), behind


def read_symbol(symbols, octets, at):
    index, behind = read_index(octets, at, len(symbols))
    if symbols[index] is None:
        raise Unreadable(at)
    return symbols[index], behind


def run_flat(step, octets, at):
    """Runs a step that reads a value which is not nested."""
    word = step[0]
    if word == "simple":
        return decode_simple(step[1], octets, at)
    if word == "to int":
        return read_to_int(octets, at)
    if word == "to text":
        return read_to_text(octets, at)
    if word == "to octets":
        return read_to_octets(octets, at)
    if word == "choice":
        return read_symbol(step[1], octets, at)
    raise Unreadable(at)


class StepRunner:
    """Runs steps on octets. The plan is an object whose method `step` gives the step at an index."""

    def __init__(self, plan, octets):
        self.plan = plan
        self.octets = octets

    def run(self, index, at, room):
        """Returns the value that the step at an index reads at a place, and the place behind it;
        the value of the writer has a nesting of at most `room`."""
        step = self.plan.step(index)
        word = step[0]
        if word == "branch":
            value, behind = self.run(step[2], at, room)
            return (step[1], value), behind
        if word not in NESTED:
            return run_flat(step, self.octets, at)
        if room == 0:
            raise InvalidData(at)
        if word == "array":
            return read_items(self.octets, at, lambda place: self.run(step[1], place, room - 1))
        if word == "map":
            return read_pairs(self.octets, at, lambda place: self.run(step[1], place, room - 1))
        if word == "union":
            chosen, behind = read_index(self.octets, at, len(step[1]))
            return self.run(step[1][chosen], behind, room - 1)
        return self.run_record(step, at, room - 1)

    def run_record(self, step, at, room):
        # Each value has its own copies of the defaults, since its lists may be changed.
        parts = [copied(part) for part in step[2]]
        for inner, target in step[1]:
            part, at = self.run(inner, at, room)
            if target is not None:
                parts[target] = part
        return tuple(parts), at


def run_steps(plan, octets, at):
    """Returns the value that the first step reads at a place, and the place behind it."""
    return StepRunner(plan, octets).run(0, at, DEEPEST_NESTING)
