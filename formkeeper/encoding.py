"""Values as octets."""

from formkeeper.errors import InvalidData, InvalidText, Truncated
from formkeeper.shapes import DEEPEST_NESTING, NESTED, resolved
from formkeeper.texts import decode_text, encode_text

MOST_OCTETS_OF_NUMBER = 10
MOST_ITEMS_OF_BLOCK = 10000
INT_END = 2147483648


def write_number(n):
    """Returns the octets of a number."""
    rest = 2 * n if n >= 0 else -2 * n - 1
    octets = []
    while rest >= 128:
        octets.append(128 + rest % 128)
        rest = rest // 128
    octets.append(rest)
    return octets


def read_number(octets, at):
    """Returns a number and the place behind it."""
    found = 0
    worth = 1
    for place in range(at, at + MOST_OCTETS_OF_NUMBER):
        if place >= len(octets):
            raise Truncated(len(octets))
        octet = octets[place]
        found += octet % 128 * worth
        worth *= 128
        if octet < 128:
            if octet == 0 and place > at or found >= 2 ** 64:
                raise InvalidData(at)
            return (found // 2 if found % 2 == 0 else -(found // 2) - 1, place + 1)
    raise InvalidData(at)


def encode_counted(octets):
    """Returns octets behind their number."""
    return write_number(len(octets)) + octets


def encode_items(names, form, value):
    """Returns the octets of an array or a map."""
    octets = write_number(len(value)) if value else []
    for item in value:
        if form[0] == "map":
            octets.extend(encode_counted(encode_text(item)))
            octets.extend(encode_shape(names, form[1], value[item]))
        else:
            octets.extend(encode_shape(names, form[1], item))
    return octets + [0]


def encode_record(names, form, value):
    octets = []
    for field, part in zip(form[2], value):
        octets.extend(encode_shape(names, field[1], part))
    return octets


def encode_shape(names, shape, value):
    """Returns the octets of a value of a shape."""
    form = resolved(names, shape)
    kind = form[0]
    if kind == "null":
        return []
    if kind == "boolean":
        return [1] if value else [0]
    if kind == "int" or kind == "long":
        return write_number(value)
    if kind == "bytes":
        return encode_counted(value)
    if kind == "string":
        return encode_counted(encode_text(value))
    if kind == "fixed":
        return list(value)
    if kind == "choice":
        return write_number(form[2].index(value))
    if kind == "union":
        return write_number(value[0]) + encode_shape(names, form[1][value[0]], value[1])
    if kind == "record":
        return encode_record(names, form, value)
    return encode_items(names, form, value)


def encode(schema, value):
    """Returns the octets of a value of the schema."""
    return encode_shape(schema.names, schema.root, value)


def take(octets, at, count):
    """Returns as many octets from a place on, and the place behind them."""
    if at + count > len(octets):
        raise Truncated(len(octets))
    return octets[at:at + count], at + count


def read_boolean(octets, at):
    taken, behind = take(octets, at, 1)
    if taken[0] > 1:
        raise InvalidData(at)
    return taken[0] == 1, behind


def read_int(octets, at):
    number, behind = read_number(octets, at)
    if not -INT_END <= number < INT_END:
        raise InvalidData(at)
    return number, behind


def read_counted(octets, at):
    """Reads octets behind their number."""
    count, begin = read_number(octets, at)
    if count < 0:
        raise InvalidData(at)
    return take(octets, begin, count)


def read_string(octets, at):
    taken, behind = read_counted(octets, at)
    try:
        return decode_text(taken), behind
    except InvalidText as error:
        raise InvalidData(behind - len(taken) + error.place) from None


def read_index(octets, at, count):
    """Reads the index of one of as many things."""
    index, behind = read_number(octets, at)
    if not 0 <= index < count:
        raise InvalidData(at)
    return index, behind


class Block:
    """The head of a block of an array or a map: the number of its items, the place behind the
    head, and, if it tells the number of octets of its items, the place of that and of their end."""

    def __init__(self, octets, at):
        self.many, self.begin = read_number(octets, at)
        if not -MOST_ITEMS_OF_BLOCK <= self.many <= MOST_ITEMS_OF_BLOCK:
            raise InvalidData(at)
        self.told_at = None
        self.end = None
        if self.many < 0:
            self.many = -self.many
            self.told_at = self.begin
            size, self.begin = read_number(octets, self.told_at)
            if size < 0:
                raise InvalidData(self.told_at)
            self.end = self.begin + size

    def check_end(self, at):
        """Raises InvalidData if the items end at another place than was told."""
        if self.end is not None and self.end != at:
            raise InvalidData(self.told_at)


def read_items(octets, at, read_item):
    """Reads an array: `read_item` gives the item at a place, and the place behind it."""
    items = []
    while True:
        block = Block(octets, at)
        at = block.begin
        if block.many == 0:
            return items, at
        for _ in range(block.many):
            item, at = read_item(at)
            items.append(item)
        block.check_end(at)


def read_pairs(octets, at, read_worth):
    """Reads a map: `read_worth` gives the value at a place, and the place behind it."""
    pairs = {}
    while True:
        block = Block(octets, at)
        at = block.begin
        if block.many == 0:
            return pairs, at
        for _ in range(block.many):
            key, behind = read_string(octets, at)
            if key in pairs:
                raise InvalidData(at)
            pairs[key], at = read_worth(behind)
        block.check_end(at)


def decode_union(names, form, octets, at, room):
    index, behind = read_index(octets, at, len(form[1]))
    value, behind = decode_shape(names, form[1][index], octets, behind, room)
    return (index, value), behind


def decode_record(names, form, octets, at, room):
    parts = []
    for field in form[2]:
        part, at = decode_shape(names, field[1], octets, at, room)
        parts.append(part)
    return tuple(parts), at


def decode_simple(form, octets, at):
    """Reads a value of a form that is not nested."""
    kind = form[0]
    if kind == "null":
        return None, at
    if kind == "boolean":
        return read_boolean(octets, at)
    if kind == "int":
        return read_int(octets, at)
    if kind == "long":
        return read_number(octets, at)
    if kind == "bytes":
        return read_counted(octets, at)
    if kind == "string":
        return read_string(octets, at)
    if kind == "fixed":
        return take(octets, at, form[2])
    index, behind = read_index(octets, at, len(form[2]))
    return form[2][index], behind


def decode_shape(names, shape, octets, at, room):
    """Returns a value of a nesting of at most `room`, and the place behind it."""
    form = resolved(names, shape)
    kind = form[0]
    if kind not in NESTED:
        return decode_simple(form, octets, at)
    if room == 0:
        raise InvalidData(at)
    if kind == "array":
        return read_items(octets, at, lambda place: decode_shape(names, form[1], octets, place, room - 1))
    if kind == "map":
        return read_pairs(octets, at, lambda place: decode_shape(names, form[1], octets, place, room - 1))
    if kind == "union":
        return decode_union(names, form, octets, at, room - 1)
    return decode_record(names, form, octets, at, room - 1)


def decode(schema, octets, at=0):
    """Returns the value of the schema that stands at a place, and the place behind it."""
    return decode_shape(schema.names, schema.root, octets, at, DEEPEST_NESTING)
