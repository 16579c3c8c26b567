"""A second reading of chapter 07, to compare read_as and run_plan with: it looks at the shapes anew for each value."""

from formkeeper.encoding import decode_shape, read_index, read_number, read_string
from formkeeper.errors import FormkeeperError, InvalidData, Unreadable
from formkeeper.values import value_of_json

MOST = 64


def outcome(function, *arguments):
    """Returns what a function returns, or the class and the place of the error that it raises."""
    try:
        return function(*arguments)
    except FormkeeperError as error:
        return error.__class__.__name__, error.place


def fit(writer, reader, shape, goal):
    if shape[0] != goal[0]:
        return False
    if shape[0] != "named":
        return True
    written, wanted = writer.names[shape[1]], reader.names[goal[1]]
    return written[0] == wanted[0] and (shape[1] == goal[1] or shape[1] in wanted[-1])


def rank(writer, reader, shape, branch):
    """Returns the lesser number for the better branch, or None for one that is not possible."""
    if fit(writer, reader, shape, branch):
        return 0 if shape[0] != "named" or shape == branch else 1
    turns = (("int", "long"), ("long", "int"), ("bytes", "string"), ("string", "bytes"))
    return 2 if (shape[0], branch[0]) in turns else None


class Reference:
    def __init__(self, writer, reader, octets):
        self.writer = writer
        self.reader = reader
        self.octets = octets

    def whole(self, at):
        return self.read(self.writer.root, self.reader.root, at, 0)

    def begin(self, at, around):
        if around >= MOST:
            raise InvalidData(at)

    def read(self, shape, goal, at, around):
        if shape[0] == "union":
            self.begin(at, around)
            index, behind = read_index(self.octets, at, len(shape[1]))
            return self.read(shape[1][index], goal, behind, around + 1)
        if goal[0] == "union":
            ranks = [(rank(self.writer, self.reader, shape, branch), index) for index, branch in enumerate(goal[1])]
            possible = sorted(each for each in ranks if each[0] is not None)
            if not possible:
                raise Unreadable(at)
            index = possible[0][1]
            value, behind = self.read(shape, goal[1][index], at, around)
            return (index, value), behind
        found = rank(self.writer, self.reader, shape, goal)
        if found is None:
            raise Unreadable(at)
        if found == 2:
            return self.turn(shape, goal, at)
        return self.same(shape, goal, at, around)

    def turn(self, shape, goal, at):
        value, behind = decode_shape({}, shape, self.octets, at, MOST)
        if shape[0] == "long" and not -2 ** 31 <= value < 2 ** 31:
            raise Unreadable(at)
        if shape[0] == "string":
            return [ord(character) for character in value], behind
        if shape[0] == "bytes":
            for code in value:
                if code not in (9, 10) and (not 32 <= code <= 126 or code == 37):
                    raise Unreadable(at)
            return "".join(chr(code) for code in value), behind
        return value, behind

    def same(self, shape, goal, at, around):
        written, wanted = shape, goal
        if shape[0] == "named":
            written, wanted = self.writer.names[shape[1]], self.reader.names[goal[1]]
        if written[0] == "record":
            return self.record(written, wanted, at, around)
        if written[0] in ("array", "map"):
            self.begin(at, around)
            return self.items(written, wanted, at, around + 1)
        if written[0] == "fixed" and written[2] != wanted[2]:
            raise Unreadable(at)
        value, behind = decode_shape(self.writer.names, shape, self.octets, at, MOST)
        if written[0] == "choice" and value not in wanted[2]:
            if wanted[3] is None:
                raise Unreadable(at)
            value = wanted[3]
        return value, behind

    def items(self, written, wanted, at, around):
        items, pairs = [], {}
        while True:
            count, behind = read_number(self.octets, at)
            if abs(count) > 10000:
                raise InvalidData(at)
            if count == 0:
                return (items if written[0] == "array" else pairs), behind
            at = behind
            if count < 0:
                size, at = read_number(self.octets, at)
                if size < 0:
                    raise InvalidData(behind)
            begin = at
            for _ in range(abs(count)):
                if written[0] == "map":
                    key, behind_key = read_string(self.octets, at)
                    if key in pairs:
                        raise InvalidData(at)
                    pairs[key], at = self.read(written[1], wanted[1], behind_key, around)
                else:
                    item, at = self.read(written[1], wanted[1], at, around)
                    items.append(item)
            if count < 0 and at != begin + size:
                raise InvalidData(behind)

    def record(self, written, wanted, at, around):
        names = [field[0] for field in written[2]]
        sources = []
        for field in wanted[2]:
            found = [names.index(name) for name in (field[0],) + field[3] if name in names]
            if not found and field[2] is None:
                raise Unreadable(at)
            sources.append(found[0] if found else None)
        self.begin(at, around)
        values = []
        for index, field in enumerate(written[2]):
            if index in sources:
                goal = wanted[2][sources.index(index)][1]
                value, at = self.read(field[1], goal, at, around + 1)
            else:
                value, at = decode_shape(self.writer.names, field[1], self.octets, at, MOST - around - 1)
            values.append(value)
        parts = []
        for field, source in zip(wanted[2], sources):
            parts.append(value_of_json(self.reader, field[1], field[2][0]) if source is None else values[source])
        return tuple(parts), at


def read_reference(writer, reader, octets, at=0):
    return Reference(writer, reader, octets).whole(at)
