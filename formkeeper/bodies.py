"""The bodies of requests: JSON texts of the last facts of some commands."""

from formkeeper.errors import InvalidJson, InvalidText
from formkeeper.jsontext import parse_json, write_json
from formkeeper.states import with_lists, with_tuples
from formkeeper.texts import decode_text, encode_text
from formkeeper.values import is_integer

LONGEST_SCHEMA = 100000
LONGEST_NAME = 60
MOST_REFERENCES = 40
VERSION_END = 1000000000000000


def write_pairs(pairs):
    return encode_text(write_json(pairs))


def write_schema_body(text, references):
    """Returns the body that tells the text of a schema and its references."""
    if not references:
        return write_pairs({"schema": text})
    return write_pairs({"schema": text, "references": with_lists(references)})


def write_mode_body(mode):
    """Returns the body that tells a mode."""
    return write_pairs({"mode": mode})


def read_pairs(octets):
    """Returns the dict that a body tells, or an empty one if it tells none."""
    try:
        pairs = parse_json(decode_text(octets))
    except (InvalidText, InvalidJson):
        return {}
    return pairs if isinstance(pairs, dict) else {}


def is_name(value):
    """Returns True if a value is a text that may be the name of a client or a subject."""
    return isinstance(value, str) and 1 <= len(value) <= LONGEST_NAME


def is_reference(row):
    """Returns True if a JSON value is the list of a name, a subject and a version."""
    if not isinstance(row, list) or len(row) != 3:
        return False
    name, subject, version = row
    if not isinstance(name, str) or len(name) > LONGEST_NAME:
        return False
    return is_name(subject) and is_integer(version, 1, VERSION_END)


def are_references(rows):
    """Returns True if a JSON value is a list of references."""
    if not isinstance(rows, list) or len(rows) > MOST_REFERENCES:
        return False
    for row in rows:
        if not is_reference(row):
            return False
    return True


def read_schema_body(octets):
    """Returns the text of a schema and its references that a body tells, or None."""
    pairs = read_pairs(octets)
    text = pairs.get("schema")
    rows = pairs.get("references", [])
    if len(pairs) != (2 if "references" in pairs else 1):
        return None
    if not isinstance(text, str) or len(text) > LONGEST_SCHEMA or not are_references(rows):
        return None
    return (text, with_tuples(rows))


def read_mode_body(octets):
    """Returns the mode that a body tells, in a tuple, or None."""
    pairs = read_pairs(octets)
    mode = pairs.get("mode")
    return (mode,) if len(pairs) == 1 and isinstance(mode, str) else None
