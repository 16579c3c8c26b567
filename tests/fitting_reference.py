"""Chapter 09 once more, to compare the least octets with: the rules of point 09.3 over whole lists, for each room of
nesting, and a search over all short lists of octets."""

from formkeeper.encoding import decode, encode, write_number
from formkeeper.errors import InvalidData, Truncated, Unreadable
from formkeeper.reading import branch_for, read_as, source_of
from tests.reading_reference import rank


def first(lists):
    """Returns the first one in the order of point 00.2, or None if there is none."""
    return min((each for each in lists if each is not None), key=lambda each: (len(each), each), default=None)


def joined(lists):
    lists = list(lists)
    if None in lists:
        return None
    return [octet for each in lists for octet in each]


class Rules:
    def __init__(self, writer, reader):
        self.writer = writer
        self.reader = reader
        self.found = {}

    def least(self, shape, room):
        key = (str(shape), room)
        if key not in self.found:
            self.found[key] = self.least_now(shape, room)
        return self.found[key]

    def least_now(self, shape, room):
        if shape[0] == "named":
            shape = self.writer.names[shape[1]]
        kind = shape[0]
        if kind in ("null", "boolean", "int", "long", "bytes", "string", "choice"):
            return [] if kind == "null" else [0]
        if kind == "fixed":
            return [0] * shape[2]
        if room == 0:
            return None
        if kind in ("array", "map"):
            return [0]
        if kind == "union":
            return first(joined([write_number(at), self.least(branch, room - 1)]) for at, branch in enumerate(shape[1]))
        return joined(self.least(field[1], room - 1) for field in shape[2])

    def unread(self, shape, goal, room):
        key = (str(shape), str(goal), room)
        if key not in self.found:
            self.found[key] = self.unread_now(shape, goal, room)
        return self.found[key]

    def unread_now(self, shape, goal, room):
        if shape[0] == "union":
            if room == 0:
                return None
            return first(joined([write_number(at), self.unread(branch, goal, room - 1)])
                         for at, branch in enumerate(shape[1]))
        if goal[0] == "union":
            at = branch_for(self.writer, self.reader, shape, goal[1])
            return self.least(shape, room) if at is None else self.unread(shape, goal[1][at], room)
        found = rank(self.writer, self.reader, shape, goal)
        if found is None:
            return self.least(shape, room)
        if found == 2:
            return {"long": write_number(2 ** 31), "bytes": [2, 0]}.get(shape[0])
        if shape[0] == "named":
            return self.unread_definition(shape, self.writer.names[shape[1]], self.reader.names[goal[1]], room)
        if shape[0] not in ("array", "map") or room == 0:
            return None
        return joined([[2] if shape[0] == "array" else [2, 0], self.unread(shape[1], goal[1], room - 1), [0]])

    def unread_definition(self, shape, written, wanted, room):
        if written[0] == "fixed":
            return None if written[2] == wanted[2] else self.least(shape, room)
        if written[0] == "choice":
            missing = [at for at, symbol in enumerate(written[2]) if symbol not in wanted[2]]
            return write_number(missing[0]) if missing and wanted[3] is None else None
        goals = {}
        for field in wanted[2]:
            source = source_of(field, written[2])
            if source is not None:
                goals[source] = field[1]
            elif field[2] is None:
                return self.least(shape, room)
        if room == 0:
            return None
        least = [self.least(field[1], room - 1) for field in written[2]]
        return first(joined(least[:at] + [self.unread(written[2][at][1], goal, room - 1)] + least[at + 1:])
                     for at, goal in goals.items())


def unread_by_rules(writer, reader):
    return Rules(writer, reader).unread(writer.root, reader.root, 64)


def least_by_rules(schema):
    return Rules(schema, schema).least(schema.root, 64)


def is_unread(writer, reader, octets):
    try:
        read_as(writer, reader, octets)
    except Unreadable:
        return True
    return False


def search(writer, is_wanted, longest, alphabet):
    """Returns the first encoding of a value of the writer that is wanted, of at most as many octets as told, each one
    of the alphabet, or None if there is none."""
    begun = [[]]
    for length in range(longest + 1):
        longer = []
        for octets in begun:
            try:
                value, end = decode(writer, octets)
            except Truncated:
                longer.extend(octets + [octet] for octet in alphabet)
                continue
            except InvalidData:
                continue
            if end == length and encode(writer, value) == octets and is_wanted(octets):
                return octets
        begun = longer
    return None
