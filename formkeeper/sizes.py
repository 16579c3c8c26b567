"""The least sizes of definitions."""

from formkeeper.shapes import names_below

MOST_OCTETS = 2200


def size_of_shape(shape, sizes):
    """Returns the least size of a shape, or None if the sizes so far give none."""
    kind = shape[0]
    if kind == "null":
        return 0
    if kind == "named":
        return sizes.get(shape[1])
    if kind != "union":
        return 1
    branches = [size_of_shape(branch, sizes) for branch in shape[1]]
    found = [size for size in branches if size is not None]
    return 1 + min(found) if found else None


def size_of_definition(definition, sizes):
    """Returns the least size of a definition, or None if the sizes so far give none."""
    if definition[0] == "fixed":
        return definition[2]
    if definition[0] == "choice":
        return 1
    total = 0
    for field in definition[2]:
        size = size_of_shape(field[1], sizes)
        if size is None:
            return None
        total += size
    # What is more is not allowed anyway, and would grow with each record around it.
    return min(total, MOST_OCTETS + 1)


def users_of(names):
    """Returns, for each name, the names of the definitions in which it occurs."""
    users = {name: [] for name in names}
    for name in names:
        for used in names_below(names[name]):
            users[used].append(name)
    return users


def least_sizes(names):
    """Returns the least sizes of definitions, cut off above the most that is allowed. Those that
    have no values are left out."""
    users = users_of(names)
    sizes = {}
    waiting = list(names)
    while waiting:
        touched = {}
        for name in waiting:
            size = size_of_definition(names[name], sizes)
            if size is not None and (name not in sizes or size < sizes[name]):
                sizes[name] = size
                for user in users[name]:
                    touched[user] = True
        waiting = list(touched)
    return sizes
