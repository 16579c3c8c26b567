"""Pairs of schemas of which the one was made from the other by chance, always the same ones."""

from formkeeper.canonical import canonical_json
from formkeeper.errors import InvalidSchema
from formkeeper.schemas import parse_schema
from tests.some_schemas import PLAIN, some_schemas

TURNS = {"int": "long", "long": "int", "bytes": "string", "string": "bytes"}


class Changer:
    """Changes the JSON value of a schema: each part with a chance of one in `rarely`."""

    def __init__(self, chosen, rarely):
        self.chosen = chosen
        self.rarely = rarely
        self.renamed = {}

    def now(self):
        return self.chosen.randrange(self.rarely) == 0

    def shape(self, value, in_union=False):
        if self.now() and not in_union:
            return self.other_shape(value)
        if isinstance(value, str):
            if value in PLAIN:
                return TURNS.get(value, value) if self.now() else value
            return self.renamed.get(value, value)
        if isinstance(value, list):
            return self.union(value)
        if value["kind"] == "array":
            return {"kind": "array", "items": self.shape(value["items"])}
        if value["kind"] == "map":
            return {"kind": "map", "values": self.shape(value["values"])}
        return self.definition(value)

    def other_shape(self, value):
        kind = self.chosen.randrange(4)
        if kind == 0:
            return self.chosen.choice(PLAIN)
        if kind == 1 and isinstance(value, list):
            return self.shape(self.chosen.choice(value), True)
        if isinstance(value, list):
            return self.union(value)
        inner = self.shape(value, True)
        others = [plain for plain in self.chosen.sample(PLAIN, 2) if plain != inner]
        return self.chosen.choice([[inner] + others, others + [inner], [others[0], inner]])

    def union(self, branches):
        found = [self.shape(branch, True) for branch in branches]
        plain = [at for at, branch in enumerate(found) if isinstance(branch, str) and branch in PLAIN]
        if plain and self.now():
            del found[self.chosen.choice(plain)]
        if self.now():
            found.append(self.chosen.choice(PLAIN))
        return found or ["null"]

    def definition(self, value):
        pairs = dict(value)
        if self.now():
            self.renamed[pairs["name"]] = pairs["name"] + "x"
            pairs["name"] += "x"
            if self.chosen.randrange(4):
                pairs["aliases"] = self.chosen.choice([[], ["other"]]) + [value["name"]] + pairs.get("aliases", [])
        if pairs["kind"] == "fixed" and self.now():
            pairs["size"] = self.chosen.choice([0, 1, 3])
        if pairs["kind"] == "choice" and self.now():
            pairs["symbols"] = self.chosen.sample(["A", "B", "C", "D", "E"], self.chosen.randrange(1, 5))
            pairs.pop("default", None)
            if self.chosen.randrange(2):
                pairs["default"] = self.chosen.choice(pairs["symbols"])
        if pairs["kind"] == "record":
            pairs["fields"] = self.fields(pairs["fields"])
        return pairs

    def fields(self, rows):
        found = []
        for at, row in enumerate(rows):
            pairs = {"name": row["name"], "kind": self.shape(row["kind"])}
            if "aliases" in row:
                pairs["aliases"] = row["aliases"]
            if self.now():
                pairs["aliases"] = self.chosen.sample([row["name"], f"g{at}", f"none{at}"], 3)
                pairs["name"] = f"h{at}"
            found.append(pairs)
        if self.now():
            self.chosen.shuffle(found)
        if self.now():
            found = [row for row in found if row["kind"] in PLAIN and self.chosen.randrange(3)] or found
        if self.now():
            found.insert(self.chosen.randrange(len(found) + 1), self.new_field())
        return found

    def new_field(self):
        kind, default = self.chosen.choice([
            ("int", 5), ("string", "new"), (["null", "int"], None), ({"kind": "array", "items": "long"}, [1, 2]),
            ({"kind": "map", "values": "string"}, {"b": "", "a": "x"}), ("bytes", [1, 2, 3]), (["long"], 7),
        ])
        pairs = {"name": "new", "kind": kind}
        if self.chosen.randrange(6):
            pairs["default"] = default
        return pairs


def some_pairs(chosen, count):
    """Returns as many pairs of a schema and another one that was made from it."""
    found = []
    while len(found) < count:
        schema = some_schemas(chosen, 4)[chosen.randrange(4)]
        changer = Changer(chosen, chosen.choice([3, 6, 12, 25]))
        try:
            other = parse_schema(changer.shape(canonical_json(schema)))
        except InvalidSchema:
            continue
        found.append(chosen.choice([(schema, other), (schema, other), (other, schema)]))
    return found
