"""Values of shapes, and the JSON values that stand for them."""

from formkeeper.errors import InvalidData
from formkeeper.shapes import DEEPEST_NESTING, NESTED, resolved
from formkeeper.texts import is_text

MOST_ITEMS = 10000
INT_END = 2147483648
LONG_END = 9223372036854775808


def is_integer(value, begin, end):
    """Returns True if something is an integer from `begin` to below `end`."""
    return isinstance(value, int) and not isinstance(value, bool) and begin <= value < end


def is_string(value):
    """Returns True if something is a text."""
    return isinstance(value, str) and is_text(value)


def is_octets(value):
    """Returns True if something is a list of octets."""
    if not isinstance(value, list):
        return False
    for octet in value:
        if not is_integer(octet, 0, 256):
            return False
    return True


def is_simple(form, value):
    """Returns True if something is a value of a form that is not nested."""
    kind = form[0]
    if kind == "null":
        return value is None
    if kind == "boolean":
        return value is True or value is False
    if kind == "int":
        return is_integer(value, -INT_END, INT_END)
    if kind == "long":
        return is_integer(value, -LONG_END, LONG_END)
    if kind == "string":
        return is_string(value)
    if kind == "bytes":
        return is_octets(value)
    if kind == "fixed":
        return is_octets(value) and len(value) == form[2]
    return value in form[2]


def has_items(form, value):
    """Returns True if something can be an array or a map, whatever its items are."""
    if form[0] == "array":
        return isinstance(value, list) and len(value) <= MOST_ITEMS
    if not isinstance(value, dict) or len(value) > MOST_ITEMS:
        return False
    for key in value:
        if not is_string(key):
            return False
    return True


def has_parts(form, value):
    """Returns True if something can be a value of a nested form, whatever its parts are."""
    if form[0] == "array" or form[0] == "map":
        return has_items(form, value)
    if not isinstance(value, tuple):
        return False
    if form[0] == "record":
        return len(value) == len(form[2])
    return len(value) == 2 and is_integer(value[0], 0, len(form[1]))


def parts_of(form, value):
    """Returns the parts of a value of a nested form, each behind its shape."""
    kind = form[0]
    if kind == "array":
        return [(form[1], item) for item in value]
    if kind == "map":
        return [(form[1], value[key]) for key in value]
    if kind == "union":
        return [(form[1][value[0]], value[1])]
    return [(field[1], part) for field, part in zip(form[2], value)]


def is_value_within(names, shape, value, room):
    """Returns True if something is a value of a shape, of a nesting of at most `room`."""
    form = resolved(names, shape)
    if form[0] not in NESTED:
        return is_simple(form, value)
    if room == 0 or not has_parts(form, value):
        return False
    for part_shape, part in parts_of(form, value):
        if not is_value_within(names, part_shape, part, room - 1):
            return False
    return True


def is_value(schema, shape, value):
    """Returns True if something is a value of a shape of the schema."""
    return is_value_within(schema.names, shape, value, DEEPEST_NESTING)


def nesting(schema, shape, value):
    """Returns the nesting of a value."""
    form = resolved(schema.names, shape)
    if form[0] not in NESTED:
        return 0
    return 1 + max([nesting(schema, part_shape, part) for part_shape, part in parts_of(form, value)], default=0)


def has_fields(form, value):
    """Returns True if a JSON value is a dict that has exactly the names of the fields as its keys."""
    if not isinstance(value, dict) or len(value) != len(form[2]):
        return False
    for field in form[2]:
        if field[0] not in value:
            return False
    return True


def value_within(names, shape, value, room):
    """Returns the value of a nesting of at most `room` that a JSON value stands for."""
    form = resolved(names, shape)
    kind = form[0]
    if kind not in NESTED:
        if not is_simple(form, value):
            raise InvalidData(0)
        return list(value) if isinstance(value, list) else value
    if room == 0:
        raise InvalidData(0)
    if kind == "union":
        return (0, value_within(names, form[1][0], value, room - 1))
    if kind == "record":
        if not has_fields(form, value):
            raise InvalidData(0)
        return tuple([value_within(names, field[1], value[field[0]], room - 1) for field in form[2]])
    if not has_items(form, value):
        raise InvalidData(0)
    if kind == "array":
        return [value_within(names, form[1], item, room - 1) for item in value]
    return {key: value_within(names, form[1], value[key], room - 1) for key in value}


def value_of_json(schema, shape, value):
    """Returns the value that a JSON value stands for."""
    return value_within(schema.names, shape, value, DEEPEST_NESTING)


def form_of_json(schema, shape, value):
    """Returns the form of a JSON value that stands for a value; nothing in it is shared."""
    form = resolved(schema.names, shape)
    kind = form[0]
    if kind == "union":
        return form_of_json(schema, form[1][0], value)
    if kind == "array":
        return [form_of_json(schema, form[1], item) for item in value]
    if kind == "map":
        return {key: form_of_json(schema, form[1], value[key]) for key in sorted(value)}
    if kind == "record":
        return {field[0]: form_of_json(schema, field[1], value[field[0]]) for field in form[2]}
    return list(value) if isinstance(value, list) else value
