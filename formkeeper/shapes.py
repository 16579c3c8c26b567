"""Shapes and definitions, as tuples."""

PLAIN = ("null", "boolean", "int", "long", "bytes", "string")
DEFINITIONS = ("fixed", "choice", "record")
# What values of these kinds consist of are values themselves.
NESTED = ("array", "map", "union", "record")
DEEPEST_NESTING = 64


def resolved(names, shape):
    """Returns the definition of a shape that is a name, and any other shape as it is."""
    if shape[0] == "named":
        return names[shape[1]]
    return shape


def names_in(shape):
    """Returns the names that occur in a shape, in order."""
    if shape[0] == "named":
        return [shape[1]]
    if shape[0] == "array" or shape[0] == "map":
        return names_in(shape[1])
    found = []
    if shape[0] == "union":
        for branch in shape[1]:
            found.extend(names_in(branch))
    return found


def names_below(definition):
    """Returns the names that occur in the shapes of the fields of a definition, in order."""
    found = []
    if definition[0] == "record":
        for field in definition[2]:
            found.extend(names_in(field[1]))
    return found
