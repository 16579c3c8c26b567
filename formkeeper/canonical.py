"""Canonical JSON values and canonical texts of schemas."""

from formkeeper.copies import copied
from formkeeper.errors import InvalidSchema
from formkeeper.jsontext import write_json

# Far beyond what a schema has; it keeps the recursion small.
MOST_LEVELS = 100


class CanonicalWriter:
    """Tells the shapes of a schema in order, and each definition where its name occurs first."""

    def __init__(self, names, levels):
        self.names = names
        self.levels = levels
        self.told = {}

    def tell_shape(self, shape, level):
        """Returns the JSON value of a shape that lies inside as many others as `level` tells."""
        if level > self.levels:
            raise InvalidSchema(0)
        kind = shape[0]
        if kind == "array":
            return {"kind": "array", "items": self.tell_shape(shape[1], level + 1)}
        if kind == "map":
            return {"kind": "map", "values": self.tell_shape(shape[1], level + 1)}
        if kind == "union":
            return [self.tell_shape(branch, level + 1) for branch in shape[1]]
        if kind == "named":
            return self.tell_name(shape[1], level)
        return kind

    def tell_name(self, name, level):
        if name in self.told:
            return name
        self.told[name] = True
        definition = self.names[name]
        kind = definition[0]
        pairs = {"kind": kind, "name": name}
        if kind == "fixed":
            pairs["size"] = definition[2]
        if kind == "choice":
            pairs["symbols"] = list(definition[2])
            if definition[3] is not None:
                pairs["default"] = definition[3]
        if kind == "record":
            pairs["fields"] = [self.tell_field(field, level + 1) for field in definition[2]]
        return with_aliases(pairs, definition[-1])

    def tell_field(self, field, level):
        name, shape, default, aliases = field
        pairs = {"name": name, "kind": self.tell_shape(shape, level)}
        if default is not None:
            pairs["default"] = copied(default[0])
        return with_aliases(pairs, aliases)


def with_aliases(pairs, aliases):
    """Returns the pairs of a definition or a field with its aliases, if it has any."""
    if not aliases:
        return pairs
    return {**pairs, "aliases": list(aliases)}


def json_within(schema, levels):
    """Returns the canonical JSON value of a schema. Raises InvalidSchema if shapes lie inside more
    than `levels` others: then it is deeper than that."""
    return CanonicalWriter(schema.names, levels).tell_shape(schema.root, 0)


def canonical_json(schema):
    """Returns the canonical JSON value of a schema."""
    return json_within(schema, MOST_LEVELS)


def canonical_text(schema):
    """Returns the canonical text of a schema."""
    return write_json(canonical_json(schema))
