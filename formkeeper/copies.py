"""Copies of values, of JSON values and of definitions."""


def copied(value):
    """Returns an equal value that shares no list and no dict with this one."""
    if isinstance(value, list):
        return [copied(item) for item in value]
    if isinstance(value, tuple):
        return tuple([copied(item) for item in value])
    if isinstance(value, dict):
        return {key: copied(value[key]) for key in value}
    return value
