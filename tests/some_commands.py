"""Commands to a registry that are made by chance, always the same ones."""

TEXTS = (
    '"int"', '"long"', ' "int"', '"string"', '["null", "int"]', '["null","long"]', '{"kind":"array","items":"int"}',
    '{"kind":"fixed","name":"F","size":1}', '{"kind":"fixed","name":"F","size":2}', '{"size": 1, "name": "F", "kind": "fixed"}',
    '{"kind":"record","name":"R","fields":[{"name":"f","kind":"F"}]}',
    '{"kind":"record","name":"R","fields":[{"name":"g","kind":"int","default":3}]}',
    '{"kind":"record","name":"R","fields":[{"name":"f","kind":"F"},{"name":"g","kind":"long","default":3}]}',
    '{"kind":"record","name":"Q","fields":[{"name":"r","kind":["R","null"]}]}', '"F"', '"R"', '["F","R"]',
    '{"kind":"choice","name":"C","symbols":["A","B"]}', '{"kind":"choice","name":"C","symbols":["A"]}',
    'int', '[]', '{"kind":"F"}', '{"kind":"fixed","name":"int","size":1}', '[1,', '"int" x', '',
)
SUBJECTS = ("log", "b", "Zeta", "two words", "a\n")
MODES = ("none", "none", "back", "forth", "both", "back all", "forth all", "both all", "all", "")


class CommandMaker:
    """Makes commands; the registry tells which references would be good."""

    def __init__(self, chosen, registry):
        self.chosen = chosen
        self.registry = registry
        self.requests = {}

    def subject(self):
        return self.chosen.choice(SUBJECTS[:2] if self.chosen.randrange(4) else SUBJECTS)

    def good_references(self):
        found = []
        for subject in self.registry.ask(("subjects",))[1]:
            for version in self.registry.ask(("versions", subject))[1]:
                root = self.registry.schema(self.registry.ask(("version", subject, version))[3]).root
                if root[0] == "named":
                    found.append((root[1], subject, version))
        return found

    def references(self):
        kind = self.chosen.randrange(12)
        if kind < 3:
            return ()
        if kind == 3:
            return tuple((self.chosen.choice(["F", "F", "R", "C"]), self.subject(), self.chosen.randrange(1, 7))
                         for _ in range(self.chosen.randrange(1, 4)))
        good = self.good_references()
        return tuple(self.chosen.sample(good, min(len(good), self.chosen.choice([1, 1, 2, 3]))))

    def schema(self):
        return self.chosen.choice(TEXTS[:18] if self.chosen.randrange(4) else TEXTS), self.references()

    def version(self, *words):
        return self.chosen.choice(list(words) + [self.chosen.randrange(1, 8)])

    def asking(self):
        return self.chosen.choice([
            ("subjects",), ("versions", self.subject()), ("version", self.subject(), self.version("latest")),
            ("schema", self.chosen.randrange(1, 20)), ("lookup", self.subject(), *self.schema()),
            ("mode", self.chosen.choice([None, self.subject()])),
            ("fits", self.subject(), self.version("latest", "all"), *self.schema()),
        ])

    def changing(self):
        subject = self.subject()
        word = self.chosen.randrange(12)
        if word < 8:
            return ("register", subject, *self.schema())
        if word < 9:
            return ("set mode", self.chosen.choice([None, subject, subject]), self.chosen.choice(MODES))
        forever = self.chosen.randrange(3) == 0
        if word < 11:
            return ("remove version", subject, self.version() if forever else self.version("latest"), forever)
        return ("remove subject", subject, forever)

    def change(self):
        """Returns a client, the number of its request and a command."""
        client = self.chosen.choice(["ann", "ben", "\t~"])
        last = self.requests.get(client, 0)
        request = max(1, last + self.chosen.choice([1, 1, 1, 1, 1, 2, 100, 0, -1]))
        self.requests[client] = max(last, request)
        return client, request, self.changing()


def many_questions(texts=TEXTS):
    """Returns questions that tell all that a registry can tell."""
    found = [("subjects",), ("mode", None)] + [("schema", number) for number in range(1, 25)]
    for subject in SUBJECTS:
        found += [("versions", subject), ("mode", subject), ("version", subject, "latest")]
        found += [("version", subject, version) for version in range(1, 12)]
        for text in texts:
            found += [("lookup", subject, text, ()), ("fits", subject, "latest", text, ()), ("fits", subject, "all", text, ())]
    return found
