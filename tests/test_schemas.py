"""Chapter 03: schemas."""

import random
import unittest

from formkeeper.canonical import canonical_json, canonical_text
from formkeeper.errors import InvalidSchema
from formkeeper.jsontext import parse_json
from formkeeper.schemas import Schema, definitions_of, is_full_name, is_simple_name, parse_schema
from tests.some_schemas import some_schemas
from tests.support import ProgramTest, strictly

PLAIN = ("null", "boolean", "int", "long", "bytes", "string")
RESERVED = PLAIN + ("array", "map", "union", "fixed", "choice", "record")
LETTERS = "ABCDEFGHIJKLMNOPQRSTUVWXYZabcdefghijklmnopqrstuvwxyz"
NO_TEXTS = (None, True, False, 0, 1, [], {}, ["a"], {"a": "b"})


def fixed(name, size=1, **more):
    return {"kind": "fixed", "name": name, "size": size, **more}


def choice(name, *symbols, **more):
    return {"kind": "choice", "name": name, "symbols": list(symbols), **more}


def record(name, *fields, **more):
    return {"kind": "record", "name": name, "fields": list(fields), **more}


def field(name, kind, **more):
    return {"name": name, "kind": kind, **more}


def array(items):
    return {"kind": "array", "items": items}


def mapping(values):
    return {"kind": "map", "values": values}


def wrapped(value, times):
    for _ in range(times):
        value = array(value)
    return value


class SchemaTest(ProgramTest):

    def parsed(self, value, known=None):
        if known is None:
            return self.called(parse_schema, value)
        return self.called(parse_schema, value, known)

    def assert_schema(self, root, names, value, known=None):
        schema = self.parsed(value, known)
        self.assertIs(Schema, schema.__class__)
        self.assertEqual(strictly(root), strictly(schema.root))
        self.assertEqual(strictly(dict(sorted(names.items()))), strictly(dict(sorted(schema.names.items()))))

    def assert_root(self, root, value, known=None):
        self.assertEqual(strictly(root), strictly(self.parsed(value, known).root))

    def assert_definition(self, definition, value, known=None):
        """The value is that of a definition."""
        schema = self.parsed(value, known)
        self.assertEqual(("named", value["name"]), schema.root)
        self.assertEqual(strictly(definition), strictly(schema.names[value["name"]]))

    def assert_invalid(self, value, known=None):
        self.assert_raises_at(InvalidSchema, 0, parse_schema, value, known)


class ShapesTest(SchemaTest):
    """Points 03.1 and 03.5: what JSON values stand for."""

    def test_examples_of_the_document(self):
        value = record("Node", field("next", ["null", "Node"], default=None))
        self.assert_schema(("named", "Node"), {"Node": (
            "record", "Node", (("next", ("union", (("null",), ("named", "Node"))), (None,), ()),), ())}, value)
        self.assert_invalid(record("Loop", field("self", "Loop")))

    def test_plain_shapes(self):
        for name in PLAIN:
            self.assert_schema((name,), {}, name)
            self.assert_schema((name,), {}, {"kind": name})
            self.assert_schema(("array", (name,)), {}, array(name))
            self.assert_schema(("map", (name,)), {}, mapping(name))
            self.assert_schema(("union", ((name,),)), {}, [name])

    def test_nested_shapes(self):
        self.assert_root(("array", ("map", ("union", (("int",), ("array", ("string",)))))),
                         array(mapping(["int", array("string")])))

    def test_a_kind_that_is_a_list_a_dict_or_a_name(self):
        others = {"items": "string", "values": "string", "name": "N", "size": 70, "fields": 1, "symbols": []}
        self.assert_schema(("int",), {}, {"kind": "int", **others})
        self.assert_schema(("int",), {}, {"kind": {"kind": "int"}, **others})
        self.assert_schema(("union", (("null",), ("int",))), {}, {"kind": ["null", "int"], **others})
        self.assert_schema(("array", ("int",)), {}, {"kind": array("int"), **others})
        self.assert_schema(("array", ("int",)), {}, {**others, "kind": {"kind": {"kind": array("int")}}})
        known = parse_schema(fixed("F")).names
        self.assert_schema(("named", "F"), known, {"kind": "F", **others}, known)
        self.assert_schema(("named", "F"), known, {"kind": fixed("F"), **others})

    def test_other_keys_are_ignored(self):
        self.assert_schema(("array", ("int",)), {}, {"items": "int", "values": 7, "doc": None, "kind": "array"})
        self.assert_schema(("map", ("int",)), {}, {"values": "int", "items": 7, "doc": None, "kind": "map"})
        self.assert_definition(("fixed", "F", 2, ()), fixed("F", 2, symbols=1, default=[], fields={}, doc=None))
        self.assert_definition(("choice", "C", ("A",), None, ()), choice("C", "A", size=-1, fields=3, items="x"))
        self.assert_definition(("record", "R", (), ()), record("R", size=-1, symbols=3, default=3, values="x"))
        self.assert_definition(("record", "R", (("a", ("int",), None, ()),), ()),
                               record("R", field("a", "int", doc="x", items="y", symbols=[], size=-1)))

    def test_what_stands_at_keys_that_are_ignored_is_not_begun(self):
        self.assert_invalid(["null", {"kind": "int", "items": fixed("F")}, "F"])
        self.assert_schema(("named", "F"), {"F": ("fixed", "F", 1, ())}, {"kind": fixed("F"), "items": fixed("F", 2)})
        self.assert_invalid(record("R", field("a", "int", doc=fixed("F")), field("b", "F")))

    def test_values_that_stand_for_no_shape(self):
        for value in (None, True, False, 0, 1, -1, "", "x", "Int", "INT", "int ", "integer", [], {}, "named", "array",
                      "map", "union", "fixed", "choice", "record", ["x"], [None], [[]], {"kind": None}, {"kind": 1},
                      {"kind": True}, {"kind": "x"}, {"kind": []}, {"kind": {}}, {"kind": "union"}, {"kind": "named"},
                      {"Kind": "int"}, {"items": "int"}, {"kind": "array"}, {"kind": "map"}, {"kind": "fixed"},
                      {"kind": "choice"}, {"kind": "record"}, {"kind": "array", "values": "int"},
                      {"kind": "map", "items": "int"}, {"kind": {"kind": "array"}, "items": "int"}):
            self.assert_invalid(value)
            self.assert_invalid(["null", value])
            self.assert_invalid(array(value))
            self.assert_invalid(mapping(value))
            self.assert_invalid({"kind": value})
            self.assert_invalid(record("R", field("a", value)))

    def test_unions_of_1_to_16_branches(self):
        all_plain = [(name,) for name in PLAIN]
        self.assert_root(("union", tuple(all_plain)), list(PLAIN))
        value = list(PLAIN) + [array("int"), mapping("int")] + [fixed(f"F{at}") for at in range(8)]
        root = tuple(all_plain) + (("array", ("int",)), ("map", ("int",)))
        root += tuple(("named", f"F{at}") for at in range(8))
        self.assert_root(("union", root), value)
        self.assert_invalid(value + [fixed("F8")])
        self.assert_invalid([fixed(f"F{at}") for at in range(17)])
        self.assert_root(("union", (("null",),)), ["null"])
        self.assert_invalid([])

    def test_branches_of_the_same_plain_shape(self):
        for name in PLAIN:
            self.assert_invalid([name, name])
            self.assert_invalid([name, array("int"), {"kind": name}])

    def test_two_arrays_and_two_maps(self):
        self.assert_invalid([array("int"), array("int")])
        self.assert_invalid([array("int"), "null", array("string")])
        self.assert_invalid([mapping("int"), mapping("int")])
        self.assert_invalid([mapping("int"), "null", mapping("string")])
        self.assert_root(("union", (("array", ("int",)), ("map", ("int",)))), [array("int"), mapping("int")])

    def test_the_same_name_twice_in_a_union(self):
        self.assert_invalid([fixed("F"), "F"])
        self.assert_invalid([fixed("F"), "null", {"kind": "F"}])
        self.assert_root(("union", (("named", "F"), ("named", "G"))), [fixed("F"), fixed("G")])
        self.assert_root(("union", (("named", "F"), ("named", "a.F"))), [fixed("F"), fixed("a.F")])

    def test_a_union_as_a_branch(self):
        self.assert_invalid([["int"]])
        self.assert_invalid(["null", ["int"]])
        self.assert_invalid(["null", {"kind": ["int"]}])
        self.assert_root(("union", (("array", ("union", (("int",),))),)), [array(["int"])])


class NamesTest(SchemaTest):
    """Points 03.3 to 03.5: names, and which of them are in a schema."""

    def test_simple_names(self):
        for text in ("a", "z", "A", "Z", "_", "__", "a1", "_0", "aB_9", "m" * 40, "null", "array", "record", LETTERS[:40]):
            self.assert_gives(True, is_simple_name, text)
        for text in ("", "1", "0a", "a.b", ".", "a b", " a", "a-b", "a\n", "@", "[", "`", "{", "a@", "a[", "a`", "a{", "a/",
                     "a:", "m" * 41, "-", "a.", ".a", "\u00e9", "a\u0661", "m" * 100000):
            self.assert_gives(False, is_simple_name, text)

    def test_letters_and_digits(self):
        for code in range(128):
            letter = chr(code) in LETTERS + "_"
            self.assert_gives(letter, is_simple_name, chr(code))
            self.assert_gives(letter or chr(code) in "0123456789", is_simple_name, "a" + chr(code))

    def test_names(self):
        for text in ("a", "_", "a.b", "A1.b2._3", "null", "a.null", "x." * 19 + "xy", "m" * 40, "a." + "m" * 38,
                     "m" * 38 + ".a", "a.b.c.d"):
            self.assert_gives(True, is_full_name, text)
        for text in ("", ".", "a.", ".a", "a..b", "a.1", "1.a", "a.b-", "a b", "m" * 41, "a." + "m" * 39, "x." * 20 + "x",
                     "a.b\n", "a.b.", "m." * 50000):
            self.assert_gives(False, is_full_name, text)

    def test_names_that_are_not_allowed_for_a_definition(self):
        for name in RESERVED:
            for value in (fixed(name), choice(name, "A"), record(name)):
                self.assert_invalid(value)
            for allowed in ("a." + name, name + ".a", name.upper(), "_" + name, name + "_"):
                self.assert_definition(("fixed", allowed, 1, ()), fixed(allowed))

    def test_names_of_definitions_and_fields(self):
        for name in ("m" * 40, "a." + "m" * 38, "_", "a.b.c"):
            self.assert_definition(("record", name, (), ()), record(name))
        for name in ("", "m" * 41, "a." + "m" * 39, "1", "a..b", "a.", "a b") + NO_TEXTS:
            for value in (fixed(name), choice(name, "A"), record(name)):
                self.assert_invalid(value)
        for name in ("m" * 40, "_", "null", "record", "R"):
            self.assert_definition(("record", "R", ((name, ("int",), None, ()),), ()), record("R", field(name, "int")))
        for name in ("", "m" * 41, "a.b", "1", "a b") + NO_TEXTS:
            self.assert_invalid(record("R", field(name, "int")))

    def test_missing_names(self):
        self.assert_invalid({"kind": "fixed", "size": 1})
        self.assert_invalid({"kind": "choice", "symbols": ["A"]})
        self.assert_invalid({"kind": "record", "fields": []})
        self.assert_invalid(record("R", {"kind": "int"}))

    def test_a_name_that_is_used_before_it_is_begun(self):
        self.assert_invalid(["F", "null"])
        self.assert_invalid(record("R", field("a", "F"), field("b", fixed("F"))))
        self.assert_invalid(record("R", field("a", array("S")), field("b", record("S"))))
        self.assert_invalid(record("R", field("a", ["null", "S"]), field("b", record("S"))))
        self.assert_schema(("named", "R"), {
            "F": ("fixed", "F", 1, ()),
            "R": ("record", "R", (("a", ("array", ("named", "F")), None, ()), ("b", ("named", "F"), None, ())), ()),
        }, record("R", field("a", array(fixed("F"))), field("b", "F")))

    def test_a_record_is_begun_before_its_fields_are_read(self):
        for kind, shape in ((["null", "R"], ("union", (("null",), ("named", "R")))),
                            (array("R"), ("array", ("named", "R"))), (mapping("R"), ("map", ("named", "R")))):
            value = {"fields": [field("a", kind)], "kind": "record", "name": "R"}
            self.assert_schema(("named", "R"), {"R": ("record", "R", (("a", shape, None, ()),), ())}, value)

    def test_records_that_contain_each_other(self):
        self.assert_schema(("named", "A"), {
            "A": ("record", "A", (("b", ("named", "B"), None, ()),), ()),
            "B": ("record", "B", (("a", ("array", ("named", "A")), None, ()), ("b", ("map", ("named", "B")), None, ())), ()),
        }, record("A", field("b", record("B", field("a", array("A")), field("b", mapping("B"))))))

    def test_a_name_that_is_defined_twice(self):
        for first in (fixed("N"), choice("N", "A"), record("N")):
            for second in (fixed("N"), choice("N", "A"), record("N")):
                self.assert_invalid([first, second])
                self.assert_invalid(record("R", field("a", first), field("b", array(second))))
        self.assert_invalid(record("R", field("a", array(record("R")))))
        self.assert_invalid(record("R", field("a", ["null", fixed("R")])))

    def test_aliases_are_no_names_of_definitions(self):
        self.assert_invalid(["null", fixed("F", aliases=["G"]), "G"])
        self.assert_root(("union", (("named", "F"), ("named", "G"))), [fixed("F", aliases=["G"]), fixed("G", aliases=["F"])])

    def test_known_definitions(self):
        known = dict(parse_schema([fixed("F", 3), choice("C", "A"), record("R", field("c", "C"))]).names)
        self.assertEqual(["C", "F", "R"], sorted(known))
        self.assert_schema(("named", "F"), {"F": known["F"]}, "F", known)
        self.assert_schema(("int",), {}, "int", known)
        self.assert_schema(("array", ("named", "R")), {"R": known["R"], "C": known["C"]}, array("R"), known)
        self.assert_schema(("named", "S"), {"S": ("record", "S", (("c", ("union", (("named", "C"),)), None, ()),), ()),
                                            "C": known["C"]}, record("S", field("c", ["C"])), known)
        self.assert_invalid("F")
        self.assert_invalid("F", {})
        self.assert_invalid("S", known)

    def test_a_name_that_is_known_already(self):
        known = dict(parse_schema([fixed("F"), fixed("G")]).names)
        for value in (fixed("F"), ["F", fixed("G")], fixed("G"), [fixed("F", 2), "null"], record("G"), choice("F", "A")):
            self.assert_invalid(value, known)
        self.assert_root(("named", "F"), fixed("F"), {})

    def test_the_names_that_can_be_reached(self):
        known = dict(parse_schema(record(
            "A", field("b", record("B", field("a", array("A")), field("c", ["null", choice("C", "X")]))),
            field("d", mapping(array(record("D", field("e", array(["int", fixed("E")]))))))
        )).names)
        self.assertEqual(["A", "B", "C", "D", "E"], sorted(known))
        for name, reached in (("A", "ABCDE"), ("B", "ABCDE"), ("C", "C"), ("D", "DE"), ("E", "E")):
            self.assert_schema(("named", name), {each: known[each] for each in reached}, name, known)
            self.assert_schema(("map", ("array", ("named", name))), {each: known[each] for each in reached},
                               mapping(array(name)), known)

    def test_a_long_row_of_known_definitions(self):
        known = {f"N{at}": ("record", f"N{at}", (("a", ("array", ("named", f"N{at + 1}")), None, ()),), ())
                 for at in range(3000)}
        known["N3000"] = ("fixed", "N3000", 1, ())
        self.assert_invalid("N0", known)
        self.assert_invalid("N0", dict(reversed(known.items())))
        self.assert_schema(("named", "N2999"), {"N2999": known["N2999"], "N3000": known["N3000"]}, "N2999", known)
        direct = {name: known[name] for name in known}
        for at in range(3000):
            direct[f"N{at}"] = ("record", f"N{at}", (("a", ("named", f"N{at + 1}"), None, ()),) * 2, ())
        self.assert_invalid("N0", direct)


class SchemaClassTest(SchemaTest):

    def test_attributes(self):
        names = {"F": ("fixed", "F", 1, ())}
        schema = Schema(("named", "F"), names)
        self.assertEqual((("named", "F"), names), (schema.root, schema.names))

    def test_the_dict_is_copied(self):
        names = {"F": ("fixed", "F", 1, ())}
        schema = Schema(("named", "F"), names)
        names["G"] = ("fixed", "G", 1, ())
        self.assertEqual(["F"], list(schema.names))

    def test_definitions_of_gives_a_new_dict(self):
        schema = parse_schema(record("R", field("a", fixed("F"))))
        found = definitions_of(schema)
        self.assertEqual(schema.names, found)
        found["G"] = None
        del found["F"]
        self.assertEqual(["F", "R"], sorted(schema.names))
        self.assertEqual(["F", "R"], sorted(definitions_of(schema)))
        self.assertEqual({}, definitions_of(parse_schema("int")))

    def test_defaults_may_be_changed_by_the_caller(self):
        """Those of what is passed, at all depths, and those of what is returned."""
        def default_of(names):
            return names["R"][2][0][2][0]

        kind = {"kind": "array", "items": {"kind": "map", "values": "bytes"}}
        value = record("R", {"name": "a", "kind": kind, "default": [{"x": [1]}]})
        first = parse_schema(value)
        self.assertEqual([{"x": [1]}], default_of(first.names))
        known, names = definitions_of(first), definitions_of(first)
        second, third = parse_schema("R", known), Schema(("named", "R"), names)
        for default in (value["fields"][0]["default"], default_of(known), default_of(names), default_of(definitions_of(first)),
                        canonical_json(first)["fields"][0]["default"]):
            default[0]["x"].append(2)
            default[0]["y"] = []
            default.append({})
            for schema in (first, second, third):
                self.assertEqual([{"x": [1]}], default_of(schema.names))

    def test_equality(self):
        def made(size):
            return Schema(("named", "F"), {"F": ("fixed", "F", size, ())})

        self.assertTrue(made(1) == made(1))
        self.assertFalse(made(1) != made(1))
        self.assertFalse(made(1) == made(2))
        self.assertTrue(made(1) != made(2))
        self.assertFalse(Schema(("int",), {}) == Schema(("long",), {}))
        self.assertTrue(Schema(("int",), {}) == Schema(("int",), {}))
        self.assertFalse(Schema(("array", ("named", "F")), made(1).names) == made(1))
        first, second = parse_schema([fixed("F"), fixed("G")]).names, parse_schema([fixed("G"), fixed("F")]).names
        self.assertTrue(Schema(("int",), first) == Schema(("int",), second))

    def test_nothing_of_another_class_is_equal(self):
        class Same:
            root = ("int",)
            names = {}

            def __eq__(self, other):
                return True

        schema = Schema(("int",), {})
        for other in (None, 0, "int", ("int",), {}, (("int",), {}), [("int",), {}], Same()):
            self.assertFalse(schema == other)
            self.assertTrue(schema != other)


class DefinitionsTest(SchemaTest):
    """Point 03.2: definitions and their limits."""

    def test_sizes_of_fixed(self):
        for size in (0, 1, 12, 63, 64):
            self.assert_definition(("fixed", "F", size, ()), fixed("F", size))
        for size in (-1, 65, 100, 10 ** 14, True, False, None, "1", [1], {}, []):
            self.assert_invalid(fixed("F", size))
        self.assert_invalid({"kind": "fixed", "name": "F"})

    def test_symbols(self):
        for count in (1, 2, 31, 32):
            symbols = [f"S{at}" for at in range(count)]
            self.assert_definition(("choice", "C", tuple(symbols), None, ()), choice("C", *symbols))
        self.assert_invalid(choice("C"))
        self.assert_invalid(choice("C", *[f"S{at}" for at in range(33)]))
        self.assert_invalid(choice("C", "A", "A"))
        self.assert_invalid(choice("C", "A", "B", "A"))
        self.assert_definition(("choice", "C", ("A", "a", "null", "C"), None, ()), choice("C", "A", "a", "null", "C"))
        self.assert_definition(("choice", "C", ("m" * 40,), None, ()), choice("C", "m" * 40))
        for symbol in ("", "1", "a.b", "a b", "m" * 41) + NO_TEXTS:
            self.assert_invalid(choice("C", symbol))
            self.assert_invalid(choice("C", "A", symbol))
        for symbols in (None, True, 1, "A", {}, {"A": 1}):
            self.assert_invalid({"kind": "choice", "name": "C", "symbols": symbols})
        self.assert_invalid({"kind": "choice", "name": "C"})

    def test_defaults_of_choices(self):
        for default in ("A", "B"):
            self.assert_definition(("choice", "C", ("A", "B"), default, ()), choice("C", "A", "B", default=default))
        for default in ("C", "", "a") + NO_TEXTS:
            self.assert_invalid(choice("C", "A", "B", default=default))

    def test_fields(self):
        self.assert_definition(("record", "R", (), ()), record("R"))
        for count in (1, 2, 31, 32):
            names = [f"f{at}" for at in range(count)]
            self.assert_definition(("record", "R", tuple((name, ("int",), None, ()) for name in names), ()),
                                   record("R", *[field(name, "int") for name in names]))
        self.assert_invalid(record("R", *[field(f"f{at}", "int") for at in range(33)]))
        for row in NO_TEXTS + ("a", "int", ["a", "int"]):
            self.assert_invalid(record("R", row))
        self.assert_invalid(record("R", {"name": "a"}))
        self.assert_invalid(record("R", {"name": "a", "kind": None}))
        for fields in (None, True, 1, "a", {}, {"a": "int"}):
            self.assert_invalid({"kind": "record", "name": "R", "fields": fields})
        self.assert_invalid({"kind": "record", "name": "R"})

    def test_the_kind_of_a_field_stands_for_its_shape_alone(self):
        """Other keys of a field do not belong to its shape."""
        self.assert_invalid(record("R", field("a", "array", items="int")))
        self.assert_invalid(record("R", field("a", "map", values="int")))
        self.assert_invalid(record("R", field("a", "fixed", size=3)))
        self.assert_invalid(record("R", field("a", "choice", symbols=["A"])))
        self.assert_invalid(record("R", field("a", "record", fields=[])))
        self.assert_definition(("record", "R", (("a", ("array", ("int",)), None, ()),), ()),
                               record("R", field("a", array("int"), items="string")))

    def test_fields_with_a_name_or_an_alias_in_common(self):
        def two(first, second, first_aliases, second_aliases):
            return record("R", field(first, "int", aliases=first_aliases), field("x", "int"),
                          field(second, "int", aliases=second_aliases))

        for value in (two("a", "a", [], []), two("a", "b", ["b"], []), two("a", "b", [], ["a"]),
                      two("a", "b", ["c"], ["c"]), two("a", "b", ["c", "d"], ["e", "d"]), two("a", "b", ["a", "x"], []),
                      two("a", "b", [], ["c", "x"]), two("a", "b", ["b"], ["a"])):
            self.assert_invalid(value)
        self.assert_definition(("record", "R", (
            ("a", ("int",), None, ("a", "c", "c")), ("x", ("int",), None, ()), ("b", ("int",), None, ("d", "b", "d"))), ()),
            two("a", "b", ["a", "c", "c"], ["d", "b", "d"]))

    def test_aliases_of_definitions(self):
        aliases = ("F", "G", "G", "a.b", "null", "array", "record", "m" * 40, "x")
        self.assert_definition(("fixed", "F", 1, aliases), fixed("F", aliases=list(aliases)))
        self.assert_definition(("choice", "F", ("x",), None, aliases), choice("F", "x", aliases=list(aliases)))
        self.assert_definition(("record", "F", (("x", ("int",), None, ()),), aliases),
                               record("F", field("x", "int"), aliases=list(aliases)))
        for definition in (fixed, lambda name, **more: choice(name, "A", **more), record):
            self.assertEqual((), self.parsed(definition("F", aliases=[])).names["F"][-1])
            for alias in ("", "1", "a..b", ".a", "a b", "m" * 41) + NO_TEXTS:
                self.assert_invalid(definition("F", aliases=[alias]))
                self.assert_invalid(definition("F", aliases=["a", alias]))
            for none in (None, True, 1, "a", {}, {"a": 1}):
                self.assert_invalid(definition("F", aliases=none))

    def test_aliases_of_fields(self):
        aliases = ("a", "b", "b", "null", "m" * 40, "R")
        self.assert_definition(("record", "R", (("a", ("int",), None, aliases),), ()),
                               record("R", field("a", "int", aliases=list(aliases))))
        self.assertEqual((), self.parsed(record("R", field("a", "int", aliases=[]))).names["R"][2][0][3])
        for alias in ("", "1", "a.b", "a b", "m" * 41) + NO_TEXTS:
            self.assert_invalid(record("R", field("a", "int", aliases=[alias])))
            self.assert_invalid(record("R", field("a", "int", aliases=["b", alias])))
        for none in (None, True, 1, "b", {}, {"b": 1}):
            self.assert_invalid(record("R", field("a", "int", aliases=none)))


class HavingValuesTest(SchemaTest):
    """Point 03.6."""

    def test_records_that_contain_themselves_at_once(self):
        for value in (
            record("A", field("a", "A")),
            record("A", field("x", "int"), field("a", "A")),
            record("A", field("b", record("B", field("a", "A")))),
            record("A", field("b", record("B", field("c", record("C", field("a", "A")))))),
            record("A", field("a", ["A"])),
            record("A", field("a", [record("B", field("b", "A")), "A"])),
            record("A", field("a", [record("B", field("b", ["A", "B"]))])),
            record("A", field("a", ["null", "A"]), field("b", "A")),
            record("A", field("a", array(record("B", field("b", "B"))))),
            record("A", field("a", mapping([record("B", field("b", "B")), "null"]))),
        ):
            self.assert_invalid(value)
            self.assert_invalid(array(value))
            self.assert_invalid(mapping(value))
            self.assert_invalid(["null", value])
            self.assert_invalid(record("Z", field("z", ["null", value])))

    def test_records_that_contain_themselves_otherwise(self):
        for kind in (["null", "A"], ["A", "null"], ["A", array("A")], [mapping("A")], array("A"), mapping(["A"]), array(["A"]),
                     [record("B", field("a", "A")), "A", fixed("F")], [record("B", field("a", ["A", "B"])), "int"],
                     record("B", field("a", array("A")), field("b", ["A", choice("C", "X")]))):
            self.assertEqual(("named", "A"), self.parsed(record("A", field("a", kind))).root)

    def test_a_default_makes_no_difference(self):
        self.assert_invalid(record("A", field("a", ["A"], default={})))


class DefaultsTest(SchemaTest):
    """Point 03.7."""

    def parsed_default(self, kind, default):
        return self.parsed(record("R", field("a", kind, default=default))).names["R"][2][0][2]

    def assert_default(self, kind, default, form=None):
        expected = default if form is None else form
        self.assertEqual(strictly((expected,)), strictly(self.parsed_default(kind, default)))

    def assert_no_default(self, kind, *defaults):
        for default in defaults:
            self.assert_invalid(record("R", field("a", kind, default=default)))
            self.assert_invalid(array(record("R", field("a", "int"), field("b", kind, default=default))))

    def test_no_default(self):
        self.assertIsNone(self.parsed(record("R", field("a", "null"))).names["R"][2][0][2])

    def test_plain_shapes(self):
        self.assert_default("null", None)
        self.assert_no_default("null", False, 0, "", [], {}, "null")
        self.assert_default("boolean", True)
        self.assert_default("boolean", False)
        self.assert_no_default("boolean", None, 0, 1, "true", [], {})
        for number in (0, -1, 2 ** 31 - 1, -2 ** 31):
            self.assert_default("int", number)
            self.assert_default("long", number)
        self.assert_no_default("int", 2 ** 31, -2 ** 31 - 1, True, None, "1", [], {})
        self.assert_default("long", 10 ** 15 - 1)
        self.assert_default("long", -10 ** 15 + 1)
        self.assert_no_default("long", False, None, "1", [1], {})
        self.assert_default("string", "")
        self.assert_default("string", "a\n\"~")
        self.assert_no_default("string", None, 1, True, [], {}, [97])
        self.assert_default("bytes", [])
        self.assert_default("bytes", [0, 255, 7])
        self.assert_no_default("bytes", None, "", [256], [-1], [True], [None], {}, 1, ["a"], [0, 1, 256])

    def test_other_shapes(self):
        self.assert_default(fixed("F", 2), [1, 2])
        self.assert_no_default(fixed("F", 2), [], [1], [1, 2, 3], [1, 256], [1, True], "ab", None)
        self.assert_default(choice("C", "A", "B"), "B")
        self.assert_no_default(choice("C", "A", "B", default="A"), "C", None, 0, ["A"])
        self.assert_default(array("int"), [])
        self.assert_default(array("int"), [1, 2])
        self.assert_no_default(array("int"), None, {}, [1, "2"], [None], 1, "")
        self.assert_default(mapping("int"), {})
        self.assert_no_default(mapping("int"), None, [], {"a": None}, {"a": 1, "b": True}, 1)

    def test_a_union_takes_the_first_branch(self):
        self.assert_default(["null", "int"], None)
        self.assert_no_default(["null", "int"], 1, 0, [])
        self.assert_default(["int", "null"], 1)
        self.assert_no_default(["int", "null"], None)
        self.assert_default([array(["int", "null"]), "null"], [1, 2])
        self.assert_no_default([array(["int", "null"]), "null"], [1, None], None)

    def test_dicts_take_the_order_of_their_form(self):
        self.assert_default(mapping("int"), {"b": 1, "a": 2, "B": 3, "ab": 4, "": 5},
                            {"": 5, "B": 3, "a": 2, "ab": 4, "b": 1})
        inner = record("I", field("x", "int"), field("b", mapping("null")), field("a", ["string", "null"]))
        self.assert_default(inner, {"a": "s", "b": {"z": None, "y": None}, "x": 1},
                            {"x": 1, "b": {"y": None, "z": None}, "a": "s"})
        self.assert_default([array(inner)], [{"b": {}, "a": "", "x": 0}], [{"x": 0, "b": {}, "a": ""}])
        self.assert_no_default(inner, {"a": "s", "b": {}}, {"a": "s", "b": {}, "x": 1, "y": 1}, {"a": "s", "b": {}, "y": 1},
                               {}, None, [])

    def test_a_field_without_a_value_has_no_default_inside_a_default(self):
        inner = record("I", field("x", "int", default=1), field("y", "int"))
        self.assert_no_default(inner, {"y": 2})
        self.assert_default(inner, {"y": 2, "x": 3}, {"x": 3, "y": 2})

    def test_defaults_of_records_that_contain_themselves(self):
        self.assert_default([array("R"), "null"], [{"a": []}, {"a": [{"a": []}]}])
        self.assert_no_default([array("R"), "null"], [{"a": None}])

    def test_a_default_of_a_shape_that_is_defined_behind_it(self):
        value = record("R", field("a", array("R"), default=[{"b": {"x": 1}, "a": []}]),
                       field("b", record("S", field("x", "int"))))
        names = self.parsed(value).names
        self.assertEqual(strictly(([{"a": [], "b": {"x": 1}}],)), strictly(names["R"][2][0][2]))
        self.assert_invalid(record("R", field("a", array("R"), default=[{"b": {"x": None}, "a": []}]),
                                   field("b", record("S", field("x", "int")))))

    def test_defaults_of_known_definitions_stay(self):
        known = parse_schema(record("R", field("a", mapping("int"), default={"b": 1, "a": 2}))).names
        self.assert_schema(("named", "R"), known, "R", dict(known))

    def test_the_default_is_a_copy(self):
        default = {"a": [1]}
        schema = parse_schema(record("R", field("a", mapping("bytes"), default=default)))
        default["a"].append(2)
        default["b"] = []
        self.assertEqual({"a": [1]}, schema.names["R"][2][0][2][0])


class SizesTest(SchemaTest):
    """Point 03.8."""

    def of_size(self, name, size):
        """Returns a record of this least size, up to 4096."""
        rows = [fixed(f"{name}x{at}", 64) for at in range(size // 64)]
        rows += [fixed(f"{name}y", size % 64)] if size % 64 else []
        groups = [rows[at:at + 32] for at in range(0, len(rows), 32)]
        return record(name, *[field(f"g{at}", record(f"{name}g{at}", *[
            field(f"f{row}", kind) for row, kind in enumerate(group)])) for at, group in enumerate(groups)])

    def assert_size(self, size, kind):
        """The least size of a shape is this: beside it, just the rest up to 2200 is allowed."""
        def beside(rest):
            return record("All", field("rest", self.of_size("Rest", rest)), field("shape", kind))

        self.parsed(beside(2200 - size))
        self.assert_invalid(beside(2201 - size))

    def test_2200_and_2201(self):
        self.parsed(self.of_size("R", 2200))
        self.assert_invalid(self.of_size("R", 2201))
        self.assert_invalid(self.of_size("R", 4096))

    def test_plain_shapes(self):
        self.assert_size(0, "null")
        for name in PLAIN[1:]:
            self.assert_size(1, name)

    def test_other_shapes(self):
        self.assert_size(1, array("int"))
        self.assert_size(1, mapping(self.of_size("M", 2200)))
        self.assert_size(1, choice("C", "A", "B", "C"))
        for size in (0, 1, 2, 64):
            self.assert_size(size, fixed("F", size))
        self.assert_size(0, record("E"))
        self.assert_size(0, record("E", field("a", "null"), field("b", fixed("F", 0))))
        self.assert_size(66, record("E", field("a", "int"), field("b", fixed("F", 64)), field("c", "boolean")))

    def test_unions(self):
        self.assert_size(1, ["null"])
        self.assert_size(1, [fixed("F", 3), "null", "int"])
        self.assert_size(2, ["int"])
        self.assert_size(2, [fixed("F", 3), array("int"), fixed("G", 2)])
        self.assert_size(4, [fixed("F", 5), fixed("G", 3)])
        self.assert_size(1, [self.of_size("M", 2200), record("E")])
        self.assert_size(3, [record("E", field("a", ["int"])), fixed("F", 3)])

    def test_records_that_contain_themselves(self):
        self.assert_size(1, record("A", field("a", ["A", "null"])))
        self.assert_size(12, record("A", field("a", ["A", fixed("F", 11)])))
        self.assert_size(5, record("A", field("a", "int"), field("b", array("A")), field("c", [record(
            "B", field("a", "A")), fixed("F", 2)])))
        self.assert_size(3, record("A", field("a", [fixed("F", 9), record("B", field("a", [fixed("G", 9), record(
            "C", field("a", ["A", "B", "C", "null"]))]))])))

    def test_a_smaller_branch_that_is_found_later(self):
        """Whichever branch is looked at first, the least one counts."""
        inner = record("A", field("a", [fixed("F", 9), record("B", field("c", choice("C", "X")))]))
        known = dict(parse_schema(inner).names)
        for name, size in (("F", 9), ("B", 1), ("C", 1), ("A", 2)):
            for first, second in (("A", name), (name, "A")):
                for rest in (2198 - size, 2199 - size):
                    value = record("X", field("a", first), field("b", second), field("rest", self.of_size("R", rest)))
                    if rest == 2198 - size:
                        self.parsed(value, known)
                    else:
                        self.assert_invalid(value, known)
        self.assert_size(11, record("X", field("a", inner), field("f", "F")))

    def test_every_definition_counts(self):
        large = self.of_size("L", 2201)
        for value in (array(large), mapping(large), ["null", large], record("R", field("a", array(large)))):
            self.assert_invalid(value)
        allowed = self.of_size("L", 2200)
        for value in (array(allowed), [allowed], ["null", allowed], record("R", field("a", [allowed, "null"]))):
            self.parsed(value)
        self.assert_invalid(record("R", field("a", [allowed])))

    def test_known_definitions_count(self):
        known = dict(parse_schema(self.of_size("K", 2200)).names)
        self.parsed("K", known)
        self.parsed(record("R", field("a", "K")), known)
        self.assert_invalid(record("R", field("a", "K"), field("b", "int")), known)
        self.assert_invalid(record("R", field("a", ["K"])), known)

    def test_sizes_that_grow_fast(self):
        inner = fixed("F", 64)
        for level in range(8):
            inner = record(f"R{level}", field("a", inner), *[
                field(f"b{at}", "F" if level == 0 else f"R{level - 1}") for at in range(31)])
        self.assert_invalid(inner)

    def test_a_row_of_definitions_that_refer_to_the_one_before(self):
        rows = [record("N0")]
        for at in range(1, 400):
            rows.append(record(f"N{at}", field("a", f"N{at - 1}"), field("b", "boolean" if at % 16 == 0 else "null")))
        groups = [record(f"G{at}", *[field(f"f{row}", kind) for row, kind in enumerate(rows[at:at + 32])])
                  for at in range(0, 400, 32)]
        self.parsed(record("All", *[field(f"g{at}", array(group)) for at, group in enumerate(groups)]))


class LimitsTest(SchemaTest):
    """Point 03.9."""

    def test_a_canonical_value_of_depth_32_and_33(self):
        for depth, kind in (
            (0, "int"), (1, ["int"]), (1, fixed("F")), (2, fixed("F", aliases=["G"])), (2, choice("C", "A")),
            (2, choice("C", "A", aliases=["G"])), (2, record("R")), (2, record("R", aliases=["G"])),
            (3, record("R", field("a", "int"))), (4, record("R", field("a", "int", aliases=["b"]))),
            (4, record("R", field("a", ["int"]))), (3, record("R", field("a", "int", default=1))),
            (4, record("R", field("a", "bytes", default=[]))), (5, record("R", field("a", array("bytes"), default=[[]]))),
            (5, record("R", field("a", array(array("int"))), field("b", "int"))),
            (6, record("R", field("a", "int"), field("b", record("S", field("a", "int"))))),
            (3, [array(["int"]), "null"]),
        ):
            self.parsed(wrapped(kind, 32 - depth))
            self.assert_invalid(wrapped(kind, 33 - depth))
            self.assert_invalid(wrapped(kind, 40 - depth))

    def test_maps_and_unions_and_records(self):
        for wrap, least in ((mapping, 1), (lambda kind: [array(kind)], 2)):
            kind = "int"
            for _ in range(32 // least):
                kind = wrap(kind)
            self.parsed(kind)
            self.assert_invalid(array(kind))
        kind = "int"
        for at in range(10):
            kind = record(f"R{at}", field("a", kind))
        self.parsed(wrapped(kind, 2))
        self.assert_invalid(wrapped(kind, 3))

    def test_a_definition_counts_where_it_stands(self):
        inner = record("I", field("a", "int"))
        self.parsed([wrapped(inner, 28), "I"])
        self.assert_invalid([wrapped(inner, 29), "I"])
        self.parsed(record("O", field("a", inner), field("b", wrapped("I", 29))))
        self.assert_invalid(record("O", field("a", inner), field("b", wrapped("I", 30))))

    def test_what_makes_the_json_value_deep_alone(self):
        kind = "int"
        for _ in range(40):
            kind = {"kind": kind}
        self.assert_schema(("int",), {}, kind)
        kind = wrapped("int", 32)
        for _ in range(8):
            kind = {"kind": kind}
        self.parsed(kind)

    def test_defaults_that_are_deep(self):
        tree = record("T", field("k", array("T")))

        def default(lists):
            value = []
            for _ in range(lists):
                value = [{"k": value}]
            return value

        def with_default(lists):
            return record("R", field("t", tree), field("d", array("T"), default=default(lists)))

        self.parsed(with_default(14))
        self.assert_invalid(with_default(15))
        self.assert_invalid(wrapped(with_default(14), 1))
        self.parsed(wrapped(with_default(13), 2))
        self.assert_invalid(wrapped(with_default(13), 3))
        self.assert_invalid(with_default(18))

    def test_known_definitions_make_it_deep(self):
        known = dict(parse_schema(wrapped(record("K", field("a", "int")), 29)).names)
        self.parsed(wrapped("K", 29), known)
        self.assert_invalid(wrapped("K", 30), known)

    def test_a_canonical_text_of_100000_characters(self):
        def with_text(length):
            return record("R", field("a", "string", default="x" * length))

        most = 100000 - len(canonical_text(parse_schema(with_text(0))))
        self.assertEqual(100000, len(canonical_text(self.parsed(with_text(most)))))
        self.assert_invalid(with_text(most + 1))
        self.assert_invalid(with_text(most + 1000))
        self.assert_invalid({"kind": with_text(most + 1), "doc": ""})
        self.parsed({"kind": with_text(most), "doc": "x" * 1000})

    def test_escapes_count_twice(self):
        def with_text(text):
            return record("R", field("a", "string", default=text))

        most = 100000 - len(canonical_text(parse_schema(with_text(""))))
        self.parsed(with_text("\n" * (most // 2)))
        self.assert_invalid(with_text("\n" * (most // 2 + 1)))
        self.assert_invalid(with_text("\"\\" * (most // 4 + 1)))

    def test_known_definitions_make_it_long(self):
        known = {}
        for at in range(3):
            known.update(parse_schema(record(f"K{at}", field("a", "string", default="x" * 33000))).names)
        self.parsed(["K0", "K1"], known)
        self.parsed(["K0", "K1", "K2"], known)
        known.update(parse_schema(record("K3", field("a", "string", default="x" * 1000))).names)
        self.assert_invalid(["K0", "K1", "K2", "K3"], known)

    def test_many_definitions(self):
        groups = [record(f"G{group}", *[field(f"f{at}", choice(f"C{group}_{at}", "A")) for at in range(32)])
                  for group in range(32)]
        self.assertEqual(1024 + 33, len(self.parsed(record("All", *[
            field(f"g{at}", group) for at, group in enumerate(groups)])).names))

    def test_no_other_error_is_raised(self):
        chosen = random.Random(3)
        schemas = 0
        for _ in range(20000):
            value = self.some_json(chosen, chosen.randrange(1, 6))
            try:
                schema = parse_schema(value)
                schemas += 1
                self.assertEqual(schema, parse_schema(parse_json(canonical_text(schema))))
            except InvalidSchema as error:
                self.assertEqual(0, error.place)
        self.assertGreater(schemas, 500)

    def test_schemas_with_one_change(self):
        chosen = random.Random(4)
        for schema in some_schemas(chosen, 300):
            value = canonical_json(schema)
            self.assertEqual(schema, parse_schema(value))
            for _ in range(5):
                changed = self.changed(chosen, value)
                try:
                    self.assertEqual(parse_schema(changed), parse_schema(canonical_json(parse_schema(changed))))
                except InvalidSchema as error:
                    self.assertEqual(0, error.place)

    def some_json(self, chosen, depth):
        kind = chosen.randrange(10 if depth else 4)
        if kind < 3:
            return chosen.choice(PLAIN + ("A", "B"))
        if kind == 3:
            return chosen.choice([None, True, False, 0, 1, 64, "", "x", "array", "fixed", [], {}])
        if kind <= 5:
            return [self.some_json(chosen, depth - 1) for _ in range(chosen.randrange(1, 4))]
        keys = ["kind", "name", "items", "values", "fields", "symbols", "size", "default", "aliases"]
        pairs = {key: self.some_json(chosen, chosen.randrange(depth)) for key in chosen.sample(keys, 2)}
        pairs["kind"] = chosen.choice(["array", "map", "fixed", "choice", "record", self.some_json(chosen, depth - 1)])
        pairs["name"] = chosen.choice(["A", "B", "C", "x.y"])
        if chosen.randrange(2):
            pairs["size"] = 3
            pairs["symbols"] = ["A", "B"]
            pairs["fields"] = [field(name, self.some_json(chosen, depth - 1)) for name in chosen.choice(["", "a", "ab"])]
            pairs.pop("default", None)
            pairs.pop("aliases", None)
        return pairs

    def changed(self, chosen, value):
        if chosen.randrange(4) == 0 or not isinstance(value, (list, dict)) or not value:
            return chosen.choice([None, True, 7, -1, "int", "A", [], {}, [value], {"kind": value}, [value, value]])
        if isinstance(value, list):
            at = chosen.randrange(len(value))
            return value[:at] + [self.changed(chosen, value[at])] + value[at + 1:]
        key = chosen.choice(list(value))
        if chosen.randrange(4) == 0:
            return {each: value[each] for each in value if each != key}
        return {**value, key: self.changed(chosen, value[key])}


if __name__ == "__main__":
    unittest.main()
