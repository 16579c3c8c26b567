"""Schemas, and reading them from JSON values."""

from formkeeper.canonical import json_within
from formkeeper.copies import copied
from formkeeper.errors import InvalidData, InvalidSchema
from formkeeper.jsontext import DEEPEST, depth_of, write_json
from formkeeper.shapes import DEFINITIONS, PLAIN, names_below, names_in
from formkeeper.sizes import MOST_OCTETS, least_sizes
from formkeeper.values import form_of_json, is_integer, value_of_json

LETTERS = "ABCDEFGHIJKLMNOPQRSTUVWXYZabcdefghijklmnopqrstuvwxyz_"
DIGITS = "0123456789"
LONGEST_NAME = 40
TAKEN_NAMES = ("array", "map", "union")
LARGEST_SIZE = 64
MOST_SYMBOLS = 32
MOST_FIELDS = 32
MOST_BRANCHES = 16
LONGEST_TEXT = 100000


class Schema:
    """A root, and the definitions that can be reached from it."""

    def __init__(self, root, names):
        self.root = root
        # The defaults in definitions hold lists and dicts, which the caller may change.
        self.names = copied(names)

    def __eq__(self, other):
        return isinstance(other, Schema) and self.root == other.root and self.names == other.names


def is_simple_name(text):
    """Returns True if a text is a simple name."""
    if not 1 <= len(text) <= LONGEST_NAME or text[0] not in LETTERS:
        return False
    for character in text:
        if character not in LETTERS and character not in DIGITS:
            return False
    return True


def is_full_name(text):
    """Returns True if a text is a name."""
    if len(text) > LONGEST_NAME:
        return False
    for part in text.split("."):
        if not is_simple_name(part):
            return False
    return True


def texts_at(pairs, key, is_allowed):
    """Returns the tuple of the texts in the list at a key of a dict."""
    texts = pairs.get(key)
    if not isinstance(texts, list):
        raise InvalidSchema(0)
    for text in texts:
        if not isinstance(text, str) or not is_allowed(text):
            raise InvalidSchema(0)
    return tuple(texts)


def aliases_of(pairs, is_allowed):
    """Returns the tuple of the aliases of a definition or a field."""
    if "aliases" not in pairs:
        return ()
    return texts_at(pairs, "aliases", is_allowed)


def size_of(pairs):
    """Returns the size of a fixed."""
    size = pairs.get("size")
    if not is_integer(size, 0, LARGEST_SIZE + 1):
        raise InvalidSchema(0)
    return size


def symbols_of(pairs):
    """Returns the tuple of the symbols of a choice."""
    symbols = texts_at(pairs, "symbols", is_simple_name)
    if not 1 <= len(symbols) <= MOST_SYMBOLS or len(set(symbols)) < len(symbols):
        raise InvalidSchema(0)
    return symbols


def symbol_default_of(pairs, symbols):
    """Returns the default of a choice, or None if it has none."""
    if "default" not in pairs:
        return None
    if pairs["default"] not in symbols:
        raise InvalidSchema(0)
    return pairs["default"]


class SchemaReader:
    """Reads shapes from a JSON value in order; `begun` holds the definitions that it has met."""

    def __init__(self, known):
        self.known = known
        self.begun = {}

    def read_shape(self, value):
        """Returns the shape that a JSON value stands for."""
        if isinstance(value, str):
            return self.read_name(value)
        if isinstance(value, list):
            return self.read_union(value)
        if not isinstance(value, dict):
            raise InvalidSchema(0)
        kind = value.get("kind")
        if kind == "array":
            return ("array", self.read_shape(value.get("items")))
        if kind == "map":
            return ("map", self.read_shape(value.get("values")))
        if kind in DEFINITIONS:
            return self.read_definition(kind, value)
        return self.read_shape(kind)

    def read_name(self, name):
        if name in PLAIN:
            return (name,)
        if name in self.begun or name in self.known:
            return ("named", name)
        raise InvalidSchema(0)

    def read_union(self, values):
        if not 1 <= len(values) <= MOST_BRANCHES:
            raise InvalidSchema(0)
        branches = tuple([self.read_shape(value) for value in values])
        told = {}
        for branch in branches:
            mark = branch[1] if branch[0] == "named" else branch[0]
            if mark == "union" or mark in told:
                raise InvalidSchema(0)
            told[mark] = True
        return ("union", branches)

    def read_definition(self, kind, pairs):
        name = self.read_new_name(pairs)
        aliases = aliases_of(pairs, is_full_name)
        # The fields of a record may already use its name.
        self.begun[name] = None
        if kind == "fixed":
            self.begun[name] = ("fixed", name, size_of(pairs), aliases)
        elif kind == "choice":
            symbols = symbols_of(pairs)
            self.begun[name] = ("choice", name, symbols, symbol_default_of(pairs, symbols), aliases)
        else:
            self.begun[name] = ("record", name, self.read_fields(pairs), aliases)
        return ("named", name)

    def read_new_name(self, pairs):
        name = pairs.get("name")
        if not isinstance(name, str) or not is_full_name(name):
            raise InvalidSchema(0)
        if name in PLAIN or name in TAKEN_NAMES or name in DEFINITIONS:
            raise InvalidSchema(0)
        if name in self.begun or name in self.known:
            raise InvalidSchema(0)
        return name

    def read_fields(self, pairs):
        rows = pairs.get("fields")
        if not isinstance(rows, list) or len(rows) > MOST_FIELDS:
            raise InvalidSchema(0)
        fields = tuple([self.read_field(row) for row in rows])
        owners = {}
        for at, field in enumerate(fields):
            for name in (field[0],) + field[3]:
                if owners.setdefault(name, at) != at:
                    raise InvalidSchema(0)
        return fields

    def read_field(self, row):
        """Returns a field whose default is not looked at yet."""
        if not isinstance(row, dict):
            raise InvalidSchema(0)
        name = row.get("name")
        if not isinstance(name, str) or not is_simple_name(name):
            raise InvalidSchema(0)
        aliases = aliases_of(row, is_simple_name)
        default = (row["default"],) if "default" in row else None
        return (name, self.read_shape(row.get("kind")), default, aliases)


def reached_from(root, definitions):
    """Returns those of the definitions that can be reached from a root."""
    reached = {}
    waiting = names_in(root)
    while waiting:
        name = waiting.pop()
        if name not in reached:
            reached[name] = definitions[name]
            waiting.extend(names_below(definitions[name]))
    return reached


def check_sizes(names):
    """Raises InvalidSchema if a definition has no values or a least size that is too large."""
    sizes = least_sizes(names)
    for name in names:
        if name not in sizes or sizes[name] > MOST_OCTETS:
            raise InvalidSchema(0)


def formed_field(schema, field):
    """Returns a field with its default in its form."""
    name, shape, default, aliases = field
    if default is None:
        return field
    try:
        value_of_json(schema, shape, default[0])
    except InvalidData:
        raise InvalidSchema(0) from None
    return (name, shape, (form_of_json(schema, shape, default[0]),), aliases)


def formed_definition(schema, definition):
    """Returns a definition with the defaults of its fields in their form."""
    if definition[0] != "record":
        return definition
    kind, name, fields, aliases = definition
    return (kind, name, tuple([formed_field(schema, field) for field in fields]), aliases)


def check_canonical(schema):
    """Raises InvalidSchema if the canonical JSON value is too deep or the canonical text too long."""
    value = json_within(schema, DEEPEST)
    if depth_of(value) > DEEPEST or len(write_json(value)) > LONGEST_TEXT:
        raise InvalidSchema(0)


def parse_schema(value, known=None):
    """Returns the Schema of a JSON value."""
    reader = SchemaReader({} if known is None else known)
    root = reader.read_shape(value)
    names = reached_from(root, {**reader.known, **reader.begun})
    check_sizes(names)
    raw = Schema(root, names)
    formed = {name: formed_definition(raw, names[name]) for name in reader.begun}
    schema = Schema(root, {**names, **formed})
    check_canonical(schema)
    return schema


def definitions_of(schema):
    """Returns a new dict with the definitions of a Schema."""
    return copied(schema.names)
