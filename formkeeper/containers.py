"""Containers: files of many values of one schema."""

from formkeeper.bigend import read_wide, write_wide
from formkeeper.canonical import canonical_text
from formkeeper.encoding import decode, encode
from formkeeper.errors import Damaged, InvalidContainer, InvalidData, Truncated
from formkeeper.jsontext import parse_json
from formkeeper.reading import Planner
from formkeeper.schemas import parse_schema
from formkeeper.steps import run_steps
from formkeeper.sums import sum_of
from formkeeper.texts import decode_text, encode_text

BEGIN = (70, 75, 1)
# Numbers and sums have as many octets.
WIDTH = 4
MARK_LENGTH = 16
# The two numbers of a block and their sum.
BLOCK_HEAD = 12
MOST_VALUES = 100000


def write_sum(octets):
    """Returns the octets of the sum of octets."""
    return write_wide(sum_of(octets), WIDTH)


class ContainerWriter:
    """A container: `done` holds its octets up to the last block that is ended, `waiting` those of
    the `many` values of the next block."""

    def __init__(self, schema, mark):
        self.schema = schema
        self.mark = list(mark)
        text = encode_text(canonical_text(schema))
        head = list(BEGIN) + write_wide(len(text), WIDTH) + text
        self.done = head + write_sum(head) + self.mark
        self.waiting = []
        self.many = 0

    def add(self, value):
        """Adds a value to the next block."""
        self.waiting.extend(encode(self.schema, value))
        self.many += 1

    def close_block(self):
        """Ends the block, if it has values."""
        if self.many == 0:
            return
        head = write_wide(self.many, WIDTH) + write_wide(len(self.waiting), WIDTH)
        self.done.extend(head + write_sum(head))
        self.done.extend(self.waiting)
        self.done.extend(write_sum(self.waiting) + self.mark)
        self.waiting = []
        self.many = 0

    def octets(self):
        """Ends the block, and returns the octets of the container so far."""
        self.close_block()
        return list(self.done)


def check_length(octets, end):
    """Raises Truncated if there are not as many octets."""
    if len(octets) < end:
        raise Truncated(len(octets))


def check_sum(octets, begin, end):
    """Raises Damaged if the sum behind some octets is not theirs."""
    if octets[end:end + WIDTH] != write_sum(octets[begin:end]):
        raise Damaged(end)


def read_head(octets):
    """Returns the Schema, the mark and the place behind the head."""
    check_length(octets, len(BEGIN))
    for at, octet in enumerate(BEGIN):
        if octets[at] != octet:
            raise InvalidContainer(at)
    begin = len(BEGIN) + WIDTH
    check_length(octets, begin)
    end = begin + read_wide(octets[len(BEGIN):begin])
    behind = end + WIDTH + MARK_LENGTH
    check_length(octets, behind)
    check_sum(octets, 0, end)
    schema = parse_schema(parse_json(decode_text(octets[begin:end])))
    return schema, octets[end + WIDTH:behind], behind


class StoredBlock:
    """A block of a container that begins at a place: the number `many` of its values, the places
    `begin` and `end` of their octets, and the place `behind` the block. Raises the errors of a block
    but for those of its values."""

    def __init__(self, octets, place, mark):
        self.begin = place + BLOCK_HEAD
        check_length(octets, self.begin)
        check_sum(octets, place, place + 2 * WIDTH)
        self.many = read_wide(octets[place:place + WIDTH])
        self.end = self.begin + read_wide(octets[place + WIDTH:place + 2 * WIDTH])
        self.behind = self.end + WIDTH + MARK_LENGTH
        check_length(octets, self.behind)
        check_sum(octets, self.begin, self.end)
        if octets[self.end + WIDTH:self.behind] != mark:
            raise InvalidContainer(self.end + WIDTH)
        if not 1 <= self.many <= MOST_VALUES:
            raise InvalidContainer(place)


def read_values(octets, schema, block):
    """Returns the list of the values of a block."""
    inner = octets[block.begin:block.end]
    values = []
    at = 0
    try:
        for _ in range(block.many):
            value, at = decode(schema, inner, at)
            values.append(value)
    except (Truncated, InvalidData):
        raise Damaged(block.begin) from None
    if at != len(inner):
        raise Damaged(block.begin)
    return values


def reread_values(octets, planner, block):
    """Returns the list of the values of a block as values of another schema, by the steps of a
    planner; the values are known to be whole."""
    values = []
    at = block.begin
    for _ in range(block.many):
        value, at = run_steps(planner, octets, at)
        values.append(value)
    return values


def read_container(octets, reader=None):
    """Returns the list of the values, read by the schema `reader`, or by that of the container."""
    schema, mark, at = read_head(octets)
    # The steps that the values need are worked out once for all of them.
    planner = None if reader is None else Planner(schema, reader)
    values = []
    while at < len(octets):
        block = StoredBlock(octets, at, mark)
        found = read_values(octets, schema, block)
        values.extend(found if planner is None else reread_values(octets, planner, block))
        at = block.behind
    return values


def behind_mark(octets, mark, at):
    """Returns the place behind the first mark that begins at a place or later, or None."""
    for begin in range(at, len(octets) - MARK_LENGTH + 1):
        if octets[begin] == mark[0] and octets[begin:begin + MARK_LENGTH] == mark:
            return begin + MARK_LENGTH
    return None


def save_container(octets):
    """Returns the list of the places of the blocks that can be saved, and the list of their values."""
    schema, mark, at = read_head(octets)
    places = []
    values = []
    while at is not None:
        try:
            block = StoredBlock(octets, at, mark)
            values.extend(read_values(octets, schema, block))
            places.append(at)
            at = block.behind
        except (Truncated, Damaged, InvalidContainer):
            at = behind_mark(octets, mark, at)
    return places, values
