"""A second reading of the chapter of the registry, to compare Registry with: one table of all versions that were ever
made, and the rules in the order in which the document tells them."""

from formkeeper.canonical import canonical_text
from formkeeper.errors import FormkeeperError
from formkeeper.fitting import least_unread
from formkeeper.jsontext import parse_json
from formkeeper.schemas import parse_schema

MODES = ("none", "back", "forth", "both", "back all", "forth all", "both all")


class Refusal(Exception):
    def __init__(self, *facts):
        self.answer = ("refused",) + facts


class ReferenceRegistry:
    def __init__(self):
        self.schemas = []
        self.table = []
        self.modes = {None: "back"}
        self.last = {}

    def rows(self, subject, *states):
        return [row for row in self.table if row["subject"] == subject and row["state"] in states]

    def standing(self, subject):
        return self.rows(subject, "stands")

    def mode(self, subject):
        return self.modes.get(subject, self.modes[None])

    def need_subject(self, subject, *states):
        if not self.rows(subject, *states):
            raise Refusal("no subject")

    def row(self, subject, version):
        rows = self.standing(subject)
        if version != "latest":
            rows = [row for row in rows if row["version"] == version]
        if not rows:
            raise Refusal("no version")
        return rows[-1]

    def read(self, text, references):
        known = {}
        for index, (name, subject, version) in enumerate(references):
            rows = [row for row in self.standing(subject) if row["version"] == version]
            if not rows or rows[0]["schema"].root != ("named", name):
                raise Refusal("bad reference", index)
            for each, definition in rows[0]["schema"].names.items():
                if known.setdefault(each, definition) != definition:
                    raise Refusal("bad reference", index)
        try:
            return parse_schema(parse_json(text), known)
        except FormkeeperError as error:
            raise Refusal("bad schema", error.place)

    def compare(self, row, schema, mode):
        words = mode.split()[0]
        for direction, pair in (("back", (row["schema"], schema)), ("forth", (schema, row["schema"]))):
            if words in (direction, "both"):
                octets = least_unread(*pair)
                if octets is not None:
                    raise Refusal("not fitting", row["version"], direction, tuple(octets))

    def number(self, schema):
        wholes = [each[2] for each in self.schemas]
        whole = canonical_text(schema)
        return wholes.index(whole) + 1 if whole in wholes else None

    def answer(self, word, *facts):
        try:
            return ("done",) + getattr(self, "do_" + word.replace(" ", "_"))(*facts)
        except Refusal as refusal:
            return refusal.answer

    def ask(self, command):
        return self.answer(*command)

    def change(self, client, request, command):
        number, answer = self.last.get(client, (0, None))
        if request < number:
            return ("refused", "old")
        if request > number:
            self.last[client] = (request, self.answer(*command))
        return self.last[client][1]

    def do_subjects(self):
        return (tuple(sorted({row["subject"] for row in self.table if row["state"] == "stands"})),)

    def do_versions(self, subject):
        self.need_subject(subject, "stands")
        return (tuple(row["version"] for row in self.standing(subject)),)

    def do_version(self, subject, version):
        self.need_subject(subject, "stands")
        row = self.row(subject, version)
        return subject, row["version"], row["number"], row["text"], row["references"]

    def do_schema(self, number):
        if number > len(self.schemas):
            raise Refusal("no schema")
        return self.schemas[number - 1]

    def do_lookup(self, subject, text, references):
        self.need_subject(subject, "stands")
        number = self.number(self.read(text, references))
        for row in self.standing(subject):
            if row["number"] == number:
                return number, row["version"]
        raise Refusal("no schema")

    def do_mode(self, subject):
        return (self.mode(subject),)

    def do_fits(self, subject, version, text, references):
        rows = self.standing(subject)
        if version != "all":
            self.need_subject(subject, "stands")
            rows = [self.row(subject, version)]
        schema = self.read(text, references)
        for row in rows[::-1]:
            self.compare(row, schema, self.mode(subject))
        return ()

    def do_register(self, subject, text, references):
        schema = self.read(text, references)
        number = self.number(schema)
        for row in self.standing(subject):
            if row["number"] == number:
                return number, row["version"]
        mode = self.mode(subject)
        for row in self.standing(subject)[::-1] if mode.endswith(" all") else self.standing(subject)[-1:]:
            self.compare(row, schema, mode)
        if number is None:
            self.schemas.append((text, references, canonical_text(schema)))
            number = len(self.schemas)
        version = len([row for row in self.table if row["subject"] == subject]) + 1
        self.table.append({"subject": subject, "version": version, "number": number, "text": text, "schema": schema,
                           "references": references, "state": "stands"})
        return number, version

    def do_set_mode(self, subject, mode):
        if mode not in MODES:
            raise Refusal("bad mode")
        self.modes[subject] = mode
        return (mode,)

    def need_unused(self, hidden, but=None):
        for row in sorted(self.table, key=lambda row: (row["subject"], row["version"])):
            if row["state"] != "gone" and row["subject"] != but:
                for _, subject, version in row["references"]:
                    if (subject, version) in [(each["subject"], each["version"]) for each in hidden]:
                        raise Refusal("in use", row["subject"], row["version"])

    def do_remove_version(self, subject, version, forever):
        if forever:
            self.need_subject(subject, "stands", "hidden")
            rows = [row for row in self.rows(subject, "stands", "hidden") if row["version"] == version]
            if rows and rows[0]["state"] == "stands":
                raise Refusal("standing", version)
            if not rows:
                raise Refusal("no version")
            rows[0]["state"] = "gone"
            return (version,)
        self.need_subject(subject, "stands")
        row = self.row(subject, version)
        self.need_unused([row])
        row["state"] = "hidden"
        return (row["version"],)

    def do_remove_subject(self, subject, forever):
        if forever:
            self.need_subject(subject, "stands", "hidden")
            if self.standing(subject):
                raise Refusal("standing", self.standing(subject)[0]["version"])
            rows, state = self.rows(subject, "hidden"), "gone"
        else:
            self.need_subject(subject, "stands")
            rows, state = self.standing(subject), "hidden"
            self.need_unused(rows, subject)
        for row in rows:
            row["state"] = state
        return (tuple(row["version"] for row in rows),)
