"""Schemas and values that are made by chance, always the same ones."""

from formkeeper.errors import InvalidSchema
from formkeeper.schemas import parse_schema

PLAIN = ("null", "boolean", "int", "long", "bytes", "string")
CHARACTERS = "\t\n" + "".join(chr(code) for code in range(32, 127) if code != 37)


class SchemaMaker:
    """Makes JSON values that stand for schemas, as long as the records in them have values."""

    def __init__(self, chosen):
        self.chosen = chosen
        self.names = []

    def shape(self, depth):
        kind = self.chosen.randrange(12 if depth else 5)
        if kind <= 3:
            return self.chosen.choice(PLAIN)
        if kind == 4:
            return self.chosen.choice(self.names) if self.names else "null"
        if kind == 5:
            return {"kind": "array", "items": self.shape(depth - 1)}
        if kind == 6:
            return {"kind": "map", "values": self.shape(depth - 1)}
        if kind == 7:
            return {"kind": self.shape(depth - 1), "doc": "ignored"}
        if kind <= 9:
            return self.union(depth - 1)
        return self.definition(depth - 1)

    def union(self, depth):
        branches = {}
        for _ in range(self.chosen.randrange(1, 5)):
            names = list(self.names)
            branch = self.shape(depth)
            inner = branch
            while isinstance(inner, dict) and not isinstance(inner["kind"], str):
                inner = inner["kind"]
            mark = str(inner)
            if isinstance(inner, dict):
                mark = inner.get("name", inner["kind"])
            if isinstance(inner, list) or mark in branches:
                self.names = names
            else:
                branches[mark] = branch
        return list(branches.values()) or ["null"]

    def definition(self, depth):
        name = self.chosen.choice(["N", "space.N", "_n"]) + str(len(self.names))
        self.names.append(name)
        kind = self.chosen.choice(["fixed", "choice", "record", "record", "record"])
        pairs = {"kind": kind, "name": name}
        if self.chosen.randrange(3) == 0:
            pairs["aliases"] = self.chosen.sample(["a.b", "null", name, "x"], 2)
        if kind == "fixed":
            pairs["size"] = self.chosen.choice([0, 1, 3, 64])
        elif kind == "choice":
            pairs["symbols"] = self.chosen.sample(["A", "B", "C", "D"], self.chosen.randrange(1, 5))
            if self.chosen.randrange(2):
                pairs["default"] = pairs["symbols"][-1]
        else:
            pairs["fields"] = [self.field(at, depth) for at in range(self.chosen.randrange(6))]
        return dict(self.chosen.sample(list(pairs.items()), len(pairs)))

    def field(self, at, depth):
        kind = self.shape(depth)
        pairs = {"name": f"f{at}", "kind": kind}
        if self.chosen.randrange(3) == 0:
            pairs["aliases"] = [f"f{at}", f"g{at}"]
        defaults = {"null": None, "boolean": True, "int": -7, "long": 2 ** 40, "string": "x", "bytes": [0, 255]}
        if isinstance(kind, str) and kind in defaults and self.chosen.randrange(2):
            pairs["default"] = defaults[kind]
        return pairs


def some_schemas(chosen, count):
    """Returns as many schemas."""
    found = []
    while len(found) < count:
        maker = SchemaMaker(chosen)
        try:
            found.append(parse_schema(maker.shape(2) if len(found) % 4 == 0 else maker.definition(6)))
        except InvalidSchema:
            pass
    return found


class TooDeep(Exception):
    pass


def some_value(chosen, schema):
    """Returns a value of a schema."""
    for _ in range(200):
        try:
            return value_of(chosen, schema, schema.root, 0)
        except TooDeep:
            pass
    raise AssertionError("no value was found")


def value_of(chosen, schema, shape, depth):
    if shape[0] == "named":
        shape = schema.names[shape[1]]
    kind = shape[0]
    if depth > 30:
        raise TooDeep()
    few = range(chosen.randrange(4 if depth < 6 else 1))
    if kind == "null":
        return None
    if kind == "boolean":
        return chosen.choice([True, False])
    if kind in ("int", "long"):
        bits = chosen.randrange(32 if kind == "int" else 64)
        return chosen.choice([2 ** bits - 1, -2 ** bits, chosen.randrange(-2 ** bits, 2 ** bits)])
    if kind == "bytes":
        return [chosen.randrange(256) for _ in few]
    if kind == "string":
        return "".join(chosen.choice(CHARACTERS) for _ in few)
    if kind == "fixed":
        return [chosen.randrange(256) for _ in range(shape[2])]
    if kind == "choice":
        return chosen.choice(shape[2])
    if kind == "array":
        return [value_of(chosen, schema, shape[1], depth + 1) for _ in few]
    if kind == "map":
        return {chosen.choice(["", "a", "b", "c\n"]): value_of(chosen, schema, shape[1], depth + 1) for _ in few}
    if kind == "union":
        index = chosen.randrange(len(shape[1]))
        return (index, value_of(chosen, schema, shape[1][index], depth + 1))
    return tuple(value_of(chosen, schema, field[1], depth + 1) for field in shape[2])
