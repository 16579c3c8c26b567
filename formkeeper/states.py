"""The octets of changes and of states of a registry."""

from formkeeper.catalog import NumberedSchema
from formkeeper.jsontext import parse_json, write_json
from formkeeper.registry import Registry
from formkeeper.schemas import parse_schema
from formkeeper.subjects import Subject, Version
from formkeeper.texts import decode_text, encode_text

MARK = "formkeeper"


def with_lists(value):
    """Returns a value with lists in the place of tuples."""
    if isinstance(value, (list, tuple)):
        return [with_lists(item) for item in value]
    return value


def with_tuples(value):
    """Returns a value with tuples in the place of lists."""
    if isinstance(value, list):
        return tuple([with_tuples(item) for item in value])
    if isinstance(value, dict):
        return {key: with_tuples(value[key]) for key in value}
    return value


def written(value):
    """Returns the octets of the JSON text of a value whose tuples are written as lists."""
    return encode_text(write_json(with_lists(value)))


def read_back(octets):
    """Returns the value that was written, with tuples in the place of lists."""
    return with_tuples(parse_json(decode_text(octets)))


def write_change(client, request, command):
    """Returns the octets of the record of a change."""
    return written((client, request, command))


def read_change(octets):
    """Returns the client, the number of the request and the command of a record."""
    return read_back(octets)


def told_subject(name, subject):
    """Returns what a state tells of a subject."""
    rows = []
    for version in subject.versions:
        row = subject.versions[version]
        rows.append((version, row.number, row.stands, row.text, row.references))
    return (name, subject.mode, subject.many_made, rows)


def write_state(registry):
    """Returns the octets of the state of a registry."""
    schemas = [(row.text, row.references, row.whole) for row in registry.catalog.rows]
    subjects = [told_subject(name, registry.subjects[name]) for name in sorted(registry.subjects)]
    clients = [(name,) + registry.clients[name] for name in sorted(registry.clients)]
    return written((schemas, subjects, registry.default_mode, clients, MARK))


def read_subject(mode, many_made, rows):
    """Returns the Subject of which a state tells this."""
    subject = Subject()
    subject.mode = mode
    subject.many_made = many_made
    for version, number, stands, text, references in rows:
        subject.versions[version] = Version(number, text, references, stands)
    return subject


def read_state(octets):
    """Returns the Registry of the octets of a state."""
    schemas, subjects, mode, clients, _ = read_back(octets)
    registry = Registry()
    registry.default_mode = mode
    for text, references, whole in schemas:
        registry.catalog.add(NumberedSchema(text, references, parse_schema(parse_json(whole)), whole))
    for name, own_mode, many_made, rows in subjects:
        registry.subjects[name] = read_subject(own_mode, many_made, rows)
    for client, request, answer in clients:
        registry.clients[client] = (request, answer)
    return registry
