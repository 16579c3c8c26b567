"""Modes: in which directions a new schema is compared with the versions of a subject."""

from formkeeper.fitting import least_unread

FIRST_MODE = "back"
# The directions of each mode, and whether all versions that stand are looked at.
MODES = {
    "none": ((), False),
    "back": (("back",), False),
    "forth": (("forth",), False),
    "both": (("back", "forth"), False),
    "back all": (("back",), True),
    "forth all": (("forth",), True),
    "both all": (("back", "forth"), True),
}


def is_mode(text):
    """Returns True if a text is a mode."""
    return text in MODES


def directions_of(mode):
    """Returns the directions in which a mode compares, in order."""
    return MODES[mode][0]


def looks_at_all(mode):
    """Returns True if a mode compares with all versions that stand."""
    return MODES[mode][1]


def misfit(version, old, new, directions):
    """Returns the refusal of a new schema that is compared with the old one of a version, or None."""
    for direction in directions:
        octets = least_unread(old, new) if direction == "back" else least_unread(new, old)
        if octets is not None:
            return ("refused", "not fitting", version, direction, tuple(octets))
    return None
