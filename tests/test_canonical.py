"""Chapter 04: canonical texts."""

import random
import unittest

from formkeeper.canonical import canonical_json, canonical_text
from formkeeper.jsontext import parse_json, write_json
from formkeeper.schemas import Schema, parse_schema
from tests.some_schemas import some_schemas
from tests.support import ProgramTest

PLAIN = ("null", "boolean", "int", "long", "bytes", "string")


class CanonicalTest(ProgramTest):

    def assert_canonical(self, text, value, known=None):
        """The canonical text of the schema of a JSON value is this, to the character."""
        schema = parse_schema(value, known)
        self.assert_gives(text, canonical_text, schema)
        self.assert_gives(parse_json(text), canonical_json, schema)
        self.assertEqual(schema, parse_schema(parse_json(text)))

    def assert_stays(self, text):
        self.assert_canonical(text, parse_json(text))

    def test_example_of_the_document(self):
        self.assert_canonical('{"kind":"choice","name":"E","symbols":["A"]}', {
            "symbols": ["A", "B"], "name": "E", "doc": "x", "kind": {"kind": "choice", "name": "E", "symbols": ["A"]}})

    def test_plain_shapes(self):
        for name in PLAIN:
            self.assert_canonical('"' + name + '"', name)
            self.assert_canonical('"' + name + '"', {"kind": {"kind": name}, "doc": 1})

    def test_arrays_maps_and_unions(self):
        self.assert_canonical('{"kind":"array","items":"int"}', {"doc": 1, "items": {"kind": "int"}, "kind": "array"})
        self.assert_canonical('{"kind":"map","values":"int"}', {"values": "int", "items": "x", "kind": "map"})
        self.assert_canonical('["null","int"]', {"kind": ["null", {"kind": "int"}], "name": 1})
        self.assert_stays('{"kind":"array","items":{"kind":"map","values":[{"kind":"array","items":["null"]}]}}')

    def test_the_order_of_branches_stays(self):
        self.assert_stays('["string","null","boolean","bytes","long","int"]')
        self.assert_stays('["null","string"]')

    def test_fixed(self):
        self.assert_canonical('{"kind":"fixed","name":"F","size":0}', {"size": 0, "aliases": [], "name": "F", "kind": "fixed"})
        self.assert_canonical('{"kind":"fixed","name":"F","size":64,"aliases":["b","a","b"]}',
                              {"aliases": ["b", "a", "b"], "size": 64, "name": "F", "kind": "fixed", "symbols": 1})

    def test_choice(self):
        self.assert_canonical('{"kind":"choice","name":"C","symbols":["B","A"]}',
                              {"symbols": ["B", "A"], "name": "C", "kind": "choice", "aliases": []})
        self.assert_canonical('{"kind":"choice","name":"C","symbols":["B","A"],"default":"A"}',
                              {"default": "A", "symbols": ["B", "A"], "name": "C", "kind": "choice"})
        self.assert_canonical('{"kind":"choice","name":"C","symbols":["B","A"],"aliases":["x.y"]}',
                              {"aliases": ["x.y"], "symbols": ["B", "A"], "name": "C", "kind": "choice"})
        self.assert_canonical('{"kind":"choice","name":"C","symbols":["B","A"],"default":"B","aliases":["C"]}',
                              {"aliases": ["C"], "default": "B", "symbols": ["B", "A"], "name": "C", "kind": "choice"})

    def test_record(self):
        self.assert_canonical('{"kind":"record","name":"R","fields":[]}', {"fields": [], "name": "R", "kind": "record"})
        self.assert_canonical('{"kind":"record","name":"R","fields":[],"aliases":["null"]}',
                              {"aliases": ["null"], "default": 3, "fields": [], "name": "R", "kind": "record"})

    def test_fields(self):
        self.assert_canonical(
            '{"kind":"record","name":"R","fields":[{"name":"b","kind":"int"},{"name":"a","kind":"null","default":null},'
            '{"name":"c","kind":["int"],"default":-1,"aliases":["e","d"]},{"name":"f","kind":"bytes","aliases":["f"]}],'
            '"aliases":["S"]}',
            {"aliases": ["S"], "fields": [
                {"doc": 1, "kind": "int", "name": "b", "aliases": []},
                {"default": None, "kind": "null", "name": "a"},
                {"aliases": ["e", "d"], "default": -1, "kind": ["int"], "name": "c"},
                {"aliases": ["f"], "name": "f", "kind": {"kind": "bytes"}},
            ], "name": "R", "kind": "record"})

    def test_defaults_are_written_in_their_form(self):
        self.assert_canonical(
            '{"kind":"record","name":"R","fields":[{"name":"a","kind":{"kind":"map","values":"boolean"},'
            '"default":{"A":true,"a":false,"b":true}}]}',
            {"kind": "record", "name": "R", "fields": [{"name": "a", "kind": {"kind": "map", "values": "boolean"}, "default": {
                "b": True, "a": False, "A": True}}]})
        self.assert_stays('{"kind":"record","name":"R","fields":[{"name":"s","kind":"string","default":"a\\n\\t\\"\\\\/~"}]}')
        self.assert_stays('{"kind":"record","name":"R","fields":[{"name":"b","kind":"boolean","default":false}]}')
        self.assert_stays('{"kind":"record","name":"R","fields":[{"name":"b","kind":"bytes","default":[]}]}')
        self.assert_stays('{"kind":"record","name":"R","fields":[{"name":"b","kind":"int","default":0}]}')

    def test_a_definition_where_it_occurs_first_and_its_name_later(self):
        self.assert_stays('{"kind":"record","name":"R","fields":[{"name":"a","kind":{"kind":"fixed","name":"F","size":1}},'
                          '{"name":"b","kind":"F"},{"name":"c","kind":{"kind":"array","items":"F"}},{"name":"d","kind":["F"]}]}')
        self.assert_stays('{"kind":"record","name":"A","fields":[{"name":"a","kind":{"kind":"record","name":"B","fields":'
                          '[{"name":"a","kind":["null","A","B"]}]}},{"name":"b","kind":"B"}]}')

    def test_known_definitions_stand_where_they_occur_first(self):
        known = parse_schema(parse_json(
            '{"kind":"record","name":"A","fields":[{"name":"b","kind":{"kind":"record","name":"B","fields":'
            '[{"name":"a","kind":["null","A"]},{"name":"f","kind":{"kind":"fixed","name":"F","size":2}}]}}]}')).names
        self.assert_canonical(
            '["F",{"kind":"record","name":"B","fields":[{"name":"a","kind":["null",{"kind":"record","name":"A","fields":'
            '[{"name":"b","kind":"B"}]}]},{"name":"f","kind":"F"}]}]'.replace('["F"', '[{"kind":"fixed","name":"F","size":2}'),
            ["F", "B"], known)
        self.assert_canonical(
            '{"kind":"record","name":"B","fields":[{"name":"a","kind":["null",{"kind":"record","name":"A","fields":'
            '[{"name":"b","kind":"B"}]}]},{"name":"f","kind":{"kind":"fixed","name":"F","size":2}}]}', "B", known)

    def test_the_canonical_text_is_the_value_as_it_is_written(self):
        for schema in some_schemas(random.Random(6), 200):
            self.assert_gives(write_json(canonical_json(schema)), canonical_text, schema)

    def test_reading_it_gives_the_schema(self):
        for schema in some_schemas(random.Random(7), 400):
            text = canonical_text(schema)
            read = parse_schema(parse_json(text))
            self.assertEqual(schema, read)
            self.assertEqual(text, canonical_text(read))

    def test_equal_schemas_have_equal_texts_and_others_do_not(self):
        schemas = some_schemas(random.Random(8), 150)
        texts = [canonical_text(schema) for schema in schemas]
        for schema, text in zip(schemas, texts):
            for other, other_text in zip(schemas, texts):
                self.assertEqual(schema == other, text == other_text)

    def test_a_schema_that_was_made_by_hand(self):
        schema = Schema(("map", ("named", "F")), {"F": ("fixed", "F", 3, ("G",))})
        self.assert_gives('{"kind":"map","values":{"kind":"fixed","name":"F","size":3,"aliases":["G"]}}', canonical_text, schema)

    def test_a_depth_of_32(self):
        text = '{"kind":"array","items":' * 32 + '"int"' + "}" * 32
        self.assert_stays(text)

    def test_the_value_shares_nothing_with_the_schema(self):
        schema = parse_schema(parse_json(
            '{"kind":"record","name":"R","fields":[{"name":"b","kind":{"kind":"map","values":"bytes"},"default":{"a":[1]}}]}'))
        text = canonical_text(schema)
        value = canonical_json(schema)
        value["fields"][0]["default"]["a"].append(2)
        value["fields"][0]["default"]["b"] = []
        self.assertEqual(text, canonical_text(schema))


if __name__ == "__main__":
    unittest.main()
