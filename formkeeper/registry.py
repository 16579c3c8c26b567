"""The registry: schemas under numbers, and versions of subjects."""

from formkeeper.canonical import canonical_text
from formkeeper.catalog import Catalog, NumberedSchema
from formkeeper.errors import InvalidJson, InvalidSchema
from formkeeper.jsontext import parse_json
from formkeeper.modes import FIRST_MODE, directions_of, is_mode, looks_at_all, misfit
from formkeeper.schemas import Schema, parse_schema
from formkeeper.subjects import Subject, Version

NO_SUBJECT = ("refused", "no subject")
NO_VERSION = ("refused", "no version")
NO_SCHEMA = ("refused", "no schema")
BAD_MODE = ("refused", "bad mode")
OLD = ("refused", "old")


def defines_otherwise(names, others):
    """Returns True if a name has another definition in one dict than in the other one."""
    for name in names:
        if name in others and names[name] != others[name]:
            return True
    return False


def tell_version(name, subject, version):
    """Returns the answer that tells a version of a subject."""
    at = subject.chosen(version)
    if at is None:
        return NO_VERSION
    found = subject.versions[at]
    return ("done", name, at, found.number, found.text, found.references)


class Registry:
    """Answers commands. `clients` holds the number and the answer of the last request of each."""

    def __init__(self):
        self.catalog = Catalog()
        self.subjects = {}
        self.default_mode = FIRST_MODE
        self.clients = {}

    def remembered(self, client):
        """Returns the number and the answer of a client's last request, or None."""
        return self.clients.get(client)

    def schema(self, number):
        """Returns the Schema with a number, or None. It is the caller's own."""
        row = self.catalog.row(number)
        return None if row is None else Schema(row.parsed.root, row.parsed.names)

    def change(self, client, request, command):
        """Returns the answer to a command that changes."""
        if client in self.clients:
            last, answer = self.clients[client]
            if request == last:
                return answer
            if request < last:
                return OLD
        answer = self.carry_out(command)
        self.clients[client] = (request, answer)
        return answer

    def carry_out(self, command):
        word = command[0]
        if word == "register":
            return self.register_text(command[1], command[2], command[3])
        if word == "set mode":
            return self.set_mode(command[1], command[2])
        if word == "remove version":
            if command[3]:
                return self.drop_version(command[1], command[2])
            return self.hide_version(command[1], command[2])
        return self.drop_subject(command[1]) if command[2] else self.hide_subject(command[1])

    def ask(self, command):
        """Returns the answer to a command that asks."""
        word = command[0]
        if word == "subjects":
            return ("done", tuple([name for name in sorted(self.subjects) if self.subjects[name].is_there()]))
        if word == "schema":
            return self.tell_schema(command[1])
        if word == "mode":
            return ("done", self.mode_of(command[1]))
        if word == "fits":
            return self.tell_fit(command[1], command[2], command[3], command[4])
        subject = self.subject_at(command[1])
        if not subject.is_there():
            return NO_SUBJECT
        if word == "versions":
            return ("done", tuple(subject.standing()))
        if word == "version":
            return tell_version(command[1], subject, command[2])
        return self.look_up(subject, command[2], command[3])

    def subject_at(self, name):
        """Returns the Subject with a name, or one without versions."""
        return self.subjects[name] if name in self.subjects else Subject()

    def mode_of(self, name):
        """Returns the mode in force for a subject, or the default mode for None."""
        own = None if name is None else self.subject_at(name).mode
        return self.default_mode if own is None else own

    def tell_schema(self, number):
        row = self.catalog.row(number)
        return NO_SCHEMA if row is None else ("done", row.text, row.references, row.whole)

    def look_up(self, subject, text, references):
        schema, refusal = self.read_schema(text, references)
        if refusal is not None:
            return refusal
        number = self.catalog.number_for(canonical_text(schema))
        at = None if number is None else subject.version_of(number)
        return NO_SCHEMA if at is None else ("done", number, at)

    def tell_fit(self, name, version, text, references):
        subject = self.subject_at(name)
        if version == "all":
            versions = subject.standing()
        else:
            if not subject.is_there():
                return NO_SUBJECT
            versions = [subject.chosen(version)]
            if versions[0] is None:
                return NO_VERSION
        schema, refusal = self.read_schema(text, references)
        if refusal is None:
            refusal = self.compare(subject, versions, schema, self.mode_of(name))
        return ("done",) if refusal is None else refusal

    def compare(self, subject, versions, schema, mode):
        """Returns the first refusal of a new schema that is compared with versions, the last one
        first, or None."""
        for version in reversed(versions):
            old = self.catalog.row(subject.versions[version].number).parsed
            refusal = misfit(version, old, schema, directions_of(mode))
            if refusal is not None:
                return refusal
        return None

    def read_schema(self, text, references):
        """Returns the Schema of a text and None, or None and the refusal."""
        known, refusal = self.known_by(references)
        if refusal is not None:
            return None, refusal
        try:
            return parse_schema(parse_json(text), known), None
        except (InvalidJson, InvalidSchema) as error:
            return None, ("refused", "bad schema", error.place)

    def known_by(self, references):
        """Returns the known definitions of references and None, or None and the refusal."""
        known = {}
        for at, (name, subject, version) in enumerate(references):
            schema = self.standing_schema(subject, version)
            if schema is None or schema.root != ("named", name) or defines_otherwise(schema.names, known):
                return None, ("refused", "bad reference", at)
            known.update(schema.names)
        return known, None

    def standing_schema(self, name, version):
        """Returns the Schema of a version, or None if it does not stand."""
        subject = self.subject_at(name)
        if subject.chosen(version) is None:
            return None
        return self.catalog.row(subject.versions[version].number).parsed

    def register_text(self, name, text, references):
        schema, refusal = self.read_schema(text, references)
        if refusal is not None:
            return refusal
        whole = canonical_text(schema)
        number = self.catalog.number_for(whole)
        subject = self.subject_at(name)
        at = None if number is None else subject.version_of(number)
        if at is not None:
            return ("done", number, at)
        mode = self.mode_of(name)
        standing = subject.standing()
        refusal = self.compare(subject, standing if looks_at_all(mode) else standing[-1:], schema, mode)
        if refusal is not None:
            return refusal
        if number is None:
            number = self.catalog.add(NumberedSchema(text, references, schema, whole))
        self.subjects[name] = subject
        return ("done", number, subject.add(Version(number, text, references, True)))

    def set_mode(self, name, mode):
        if not is_mode(mode):
            return BAD_MODE
        if name is None:
            self.default_mode = mode
        else:
            self.subjects[name] = self.subject_at(name)
            self.subjects[name].mode = mode
        return ("done", mode)

    def hide_version(self, name, version):
        subject = self.subject_at(name)
        if not subject.is_there():
            return NO_SUBJECT
        at = subject.chosen(version)
        if at is None:
            return NO_VERSION
        refusal = self.use_of(name, [at], True)
        if refusal is not None:
            return refusal
        subject.hide([at])
        return ("done", at)

    def hide_subject(self, name):
        subject = self.subject_at(name)
        if not subject.is_there():
            return NO_SUBJECT
        versions = subject.standing()
        refusal = self.use_of(name, versions, False)
        if refusal is not None:
            return refusal
        subject.hide(versions)
        return ("done", tuple(versions))

    def use_of(self, name, versions, by_itself):
        """Returns the refusal to hide versions of a subject which others refer to, or None. Those of
        the subject itself count only if `by_itself` is True."""
        hidden = {version: True for version in versions}
        for other in sorted(self.subjects):
            if by_itself or other != name:
                rows = self.subjects[other].versions
                for version in rows:
                    if rows[version].refers_to(name, hidden):
                        return ("refused", "in use", other, version)
        return None

    def drop_version(self, name, version):
        subject = self.subject_at(name)
        if not subject.versions:
            return NO_SUBJECT
        if version not in subject.versions:
            return NO_VERSION
        if subject.versions[version].stands:
            return ("refused", "standing", version)
        subject.drop([version])
        return ("done", version)

    def drop_subject(self, name):
        subject = self.subject_at(name)
        if not subject.versions:
            return NO_SUBJECT
        standing = subject.standing()
        if standing:
            return ("refused", "standing", standing[0])
        versions = list(subject.versions)
        subject.drop(versions)
        return ("done", tuple(versions))
