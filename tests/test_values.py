"""Chapter 05: values."""

import random
import unittest

from formkeeper.errors import InvalidData
from formkeeper.schemas import Schema, parse_schema
from formkeeper.values import form_of_json, is_value, nesting, value_of_json
from tests.some_schemas import some_schemas, some_value
from tests.support import ProgramTest, strictly

EMPTY = Schema(("null",), {})
DEFINITIONS = Schema(("null",), {
    "F0": ("fixed", "F0", 0, ()),
    "F2": ("fixed", "F2", 2, ()),
    "C": ("choice", "C", ("A", "B"), "B", ("X",)),
    "E": ("record", "E", (), ()),
    "P": ("record", "P", (("x", ("int",), (1,), ()), ("y", ("string",), None, ("z",))), ()),
    "L": ("record", "L", (("next", ("union", (("null",), ("named", "L"))), None, ()),), ()),
})
PLAIN = ("null", "boolean", "int", "long", "bytes", "string")
SOME_THINGS = (None, True, False, 0, 1, -1, "", "A", "a%", [], [0], [True], [256], [-1], ["A"], [None], (), (0,), (0, None),
               (0, 0, 0), {}, {"a": 1}, {"a%": 1})


def nested_shape(kind, levels, shape):
    """Returns a shape that lies inside as many arrays, maps or unions."""
    for _ in range(levels):
        shape = ("union", (shape,)) if kind == "union" else (kind, shape)
    return shape


def nested_value(kind, levels, value):
    for _ in range(levels):
        value = {"array": [value], "map": {"k": value}, "union": (0, value)}[kind]
    return value


class ValuesTest(ProgramTest):
    """Points 05.1 and 05.3."""

    def assert_values(self, shape, *values):
        for value in values:
            self.assert_gives(True, is_value, DEFINITIONS, shape, value)

    def assert_none(self, shape, *values):
        for value in values:
            self.assert_gives(False, is_value, DEFINITIONS, shape, value)

    def test_example_of_the_document(self):
        schema = Schema(("union", (("null",), ("int",))), {})
        self.assert_gives(True, is_value, schema, schema.root, (1, 5))
        self.assert_gives(False, is_value, schema, schema.root, (1, True))
        self.assert_gives(False, is_value, schema, schema.root, 5)

    def test_which_of_some_things_are_values(self):
        for shape, values in (
            (("null",), [None]),
            (("boolean",), [True, False]),
            (("int",), [0, 1, -1]),
            (("long",), [0, 1, -1]),
            (("bytes",), [[], [0]]),
            (("string",), ["", "A"]),
            (("array", ("null",)), [[], [None]]),
            (("array", ("int",)), [[], [0], [256], [-1]]),
            (("array", ("boolean",)), [[], [True]]),
            (("array", ("string",)), [[], ["A"]]),
            (("map", ("int",)), [{}, {"a": 1}]),
            (("map", ("null",)), [{}]),
            (("union", (("null",), ("int",))), [(0, None)]),
            (("union", (("int",), ("null",))), []),
            (("named", "F0"), [[]]),
            (("named", "F2"), []),
            (("named", "C"), ["A"]),
            (("named", "E"), [()]),
            (("named", "P"), []),
        ):
            for thing in SOME_THINGS:
                allowed = strictly(thing) in [strictly(value) for value in values]
                self.assert_gives(allowed, is_value, DEFINITIONS, shape, thing)

    def test_the_ends_of_the_ranges(self):
        self.assert_values(("int",), 2 ** 31 - 1, -2 ** 31)
        self.assert_none(("int",), 2 ** 31, -2 ** 31 - 1, 2 ** 63, 10 ** 30)
        self.assert_values(("long",), 2 ** 31, -2 ** 31 - 1, 2 ** 63 - 1, -2 ** 63)
        self.assert_none(("long",), 2 ** 63, -2 ** 63 - 1, 10 ** 30, -10 ** 30)

    def test_bytes_and_strings(self):
        self.assert_values(("bytes",), list(range(256)), [255] * 20000)
        self.assert_none(("bytes",), [1, 256], [1, -1], [1, False], [1, None], [[1]], "ab", (1, 2), {}, ["a"])
        self.assert_values(("string",), "a b\n\t~", "x" * 20000)
        self.assert_none(("string",), "a\r", "%", "\x7f", "\x1f", "\xe9", "a" * 99 + "\x00", [97], ("a",))

    def test_fixed(self):
        self.assert_values(("named", "F2"), [0, 255], [7, 7])
        self.assert_none(("named", "F2"), [], [1], [1, 2, 3], [1, 256], [-1, 1], [True, 1], (1, 2), "ab", {})

    def test_choices(self):
        self.assert_values(("named", "C"), "A", "B")
        self.assert_none(("named", "C"), "C", "X", "a", "", 0, 1, ("A",), ["A"])

    def test_arrays_of_10000_and_10001_items(self):
        self.assert_values(("array", ("int",)), [7] * 10000)
        self.assert_none(("array", ("int",)), [7] * 10001)
        self.assert_none(("array", ("array", ("int",))), [[], [7] * 10001])
        self.assert_none(("array", ("int",)), [7] * 9999 + [None], [True] + [7] * 10, ([7],), (7,))

    def test_maps_of_10000_and_10001_items(self):
        self.assert_values(("map", ("int",)), {f"k{at}": at for at in range(10000)})
        self.assert_none(("map", ("int",)), {f"k{at}": at for at in range(10001)})

    def test_keys_of_maps(self):
        self.assert_values(("map", ("int",)), {"": 1}, {"a b\n\t~": 1, "b": 2})
        for key in ("%", "a\r", "\x7f", "\xe9", "ab\x00"):
            self.assert_none(("map", ("int",)), {key: 1}, {"a": 1, key: 1})

    def test_values_of_maps(self):
        self.assert_none(("map", ("int",)), {"a": 1, "b": None}, {"a": True}, {"a": "1"}, [("a", 1)])

    def test_unions(self):
        shape = ("union", (("null",), ("int",), ("array", ("int",))))
        self.assert_values(shape, (0, None), (1, 7), (2, []), (2, [1, 2]))
        self.assert_none(shape, (0, 7), (1, None), (1, True), (True, 7), (False, None), (-1, []), (3, None), (3, []),
                         (None, None), (0,), (), (1, 7, 7), [1, 7], 7, None, ("1", 7), {"a": 7}, (2, [None]), (2, (1,)))
        self.assert_none(("union", (("named", "E"),)), (), (0,), (1, ()), (0, []))
        self.assert_values(("union", (("named", "E"),)), (0, ()))

    def test_records(self):
        self.assert_values(("named", "P"), (1, ""), (-1, "a"))
        self.assert_none(("named", "P"), (), (1,), (1, "a", None), [1, "a"], ("a", 1), (True, "a"), (1, None), {"x": 1, "y": "a"})
        self.assert_none(("named", "E"), [], (None,), {}, None)
        self.assert_values(("named", "L"), ((0, None),), ((1, ((0, None),)),))
        self.assert_none(("named", "L"), (None,), ((1, (0, None)),), ((1, ((1, None),)),))

    def test_a_shape_that_is_not_the_root(self):
        schema = parse_schema({"kind": "array", "items": "int"})
        self.assert_gives(True, is_value, schema, ("int",), 5)
        self.assert_gives(False, is_value, schema, ("int",), [5])
        self.assert_gives(True, is_value, schema, schema.root, [5])


class NestingTest(ProgramTest):
    """Point 05.2."""

    def assert_nesting(self, levels, shape, value):
        self.assert_gives(levels, nesting, DEFINITIONS, shape, value)
        self.assert_gives(levels <= 64, is_value, DEFINITIONS, shape, value)

    def test_no_nesting(self):
        for shape, value in ((("null",), None), (("boolean",), True), (("int",), 1), (("long",), 1), (("bytes",), [1, 2]),
                             (("string",), "ab"), (("named", "F2"), [1, 2]), (("named", "C"), "A")):
            self.assert_nesting(0, shape, value)
            self.assert_nesting(1, ("array", shape), [value])
            self.assert_nesting(1, ("map", shape), {"a": value})
            self.assert_nesting(1, ("union", (shape,)), (0, value))

    def test_values_without_parts(self):
        for shape, value in ((("array", ("int",)), []), (("map", ("int",)), {}), (("named", "E"), ())):
            self.assert_nesting(1, shape, value)
            self.assert_nesting(2, ("array", shape), [value])
            self.assert_nesting(2, ("union", (("null",), shape)), (1, value))

    def test_the_greatest_nesting_of_the_parts_counts(self):
        shape = ("array", ("array", ("array", ("int",))))
        self.assert_nesting(1, shape, [])
        self.assert_nesting(2, shape, [[], []])
        self.assert_nesting(3, shape, [[], [[]], []])
        self.assert_nesting(3, shape, [[[1]], []])
        self.assert_nesting(3, ("map", ("array", ("array", ("int",)))), {"a": [], "b": [[1]], "c": []})
        self.assert_nesting(1, ("named", "P"), (1, ""))
        self.assert_nesting(2, ("named", "L"), ((0, None),))
        self.assert_nesting(4, ("named", "L"), ((1, ((0, None),)),))

    def test_a_nesting_of_64_and_of_65(self):
        for kind in ("array", "map", "union"):
            for levels in (63, 64, 65, 66, 80):
                self.assert_nesting(levels, nested_shape(kind, levels, ("int",)), nested_value(kind, levels, 7))
                self.assert_nesting(levels, nested_shape(kind, levels - 1, ("named", "E")), nested_value(kind, levels - 1, ()))
                self.assert_nesting(levels, nested_shape(kind, levels - 1, ("array", ("int",))),
                                    nested_value(kind, levels - 1, []))
                self.assert_nesting(levels, nested_shape(kind, levels - 1, ("map", ("int",))), nested_value(kind, levels - 1, {}))
        value = ((0, None),)
        for levels in range(2, 80, 2):
            self.assert_nesting(levels, ("named", "L"), value)
            value = ((1, value),)

    def test_one_deep_part_beside_others(self):
        shape = nested_shape("array", 65, ("int",))
        self.assert_nesting(65, shape, [[], nested_value("array", 64, 7), []])
        self.assert_nesting(64, shape, [[], nested_value("array", 62, []), []])


class JsonTest(ProgramTest):
    """Points 05.4 and 05.5."""

    def assert_stands(self, shape, json, value, schema=DEFINITIONS):
        self.assert_gives(value, value_of_json, schema, shape, json)
        self.assert_gives(True, is_value, schema, shape, value)

    def assert_stands_for_none(self, shape, *values, schema=DEFINITIONS):
        for value in values:
            self.assert_raises_at(InvalidData, 0, value_of_json, schema, shape, value)

    def test_example_of_the_document(self):
        schema = Schema(("union", (("null",), ("int",))), {})
        self.assert_stands(schema.root, None, (0, None), schema)
        self.assert_stands_for_none(schema.root, 5, schema=schema)

    def test_plain_shapes(self):
        for shape, values in ((("null",), [None]), (("boolean",), [True, False]), (("int",), [0, 1]), (("long",), [0, 1]),
                              (("bytes",), [[], [0, 255]]), (("string",), ["", "a\n"])):
            for value in (None, True, False, 0, 1, [], [0, 255], "", "a\n", {}, {"a": 1}, [True], [256], [-1], ["a"]):
                if strictly(value) in [strictly(each) for each in values]:
                    self.assert_stands(shape, value, value)
                    self.assert_gives(value, form_of_json, DEFINITIONS, shape, value)
                else:
                    self.assert_stands_for_none(shape, value)

    def test_ranges(self):
        for number in (2 ** 31 - 1, -2 ** 31):
            self.assert_stands(("int",), number, number)
        self.assert_stands_for_none(("int",), 2 ** 31, -2 ** 31 - 1, 10 ** 15 - 1)
        for number in (2 ** 31, -2 ** 31 - 1, 10 ** 15 - 1, 1 - 10 ** 15):
            self.assert_stands(("long",), number, number)

    def test_fixed_and_choices(self):
        self.assert_stands(("named", "F2"), [0, 255], [0, 255])
        self.assert_stands(("named", "F0"), [], [])
        self.assert_stands_for_none(("named", "F2"), [], [1], [1, 2, 3], [1, 256], [1, True], [1, -1], None, "ab", {})
        self.assert_stands(("named", "C"), "A", "A")
        self.assert_stands(("named", "C"), "B", "B")
        self.assert_stands_for_none(("named", "C"), "X", "", None, 0, ["A"], {"A": 1})

    def test_arrays_and_maps(self):
        self.assert_stands(("array", ("int",)), [], [])
        self.assert_stands(("array", ("named", "P")), [{"x": 1, "y": "a"}], [(1, "a")])
        self.assert_stands_for_none(("array", ("int",)), {}, None, "", 1, [None], [1, True], [1, "a"])
        self.assert_stands(("map", ("int",)), {}, {})
        self.assert_stands(("map", ("union", (("int",), ("null",)))), {"b": 1, "a": 2}, {"b": (0, 1), "a": (0, 2)})
        self.assert_stands_for_none(("map", ("int",)), [], None, "", 1, {"a": None}, {"a": 1, "b": True})

    def test_10000_and_10001_items(self):
        self.assert_stands(("array", ("int",)), [7] * 10000, [7] * 10000)
        self.assert_stands_for_none(("array", ("int",)), [7] * 10001)
        pairs = {f"k{at}": at for at in range(10001)}
        self.assert_stands_for_none(("map", ("int",)), pairs)
        del pairs["k0"]
        self.assert_stands(("map", ("int",)), pairs, pairs)

    def test_unions_take_the_first_branch(self):
        shape = ("union", (("array", ("union", (("string",), ("null",)))), ("null",), ("string",)))
        self.assert_stands(shape, ["a"], (0, [(0, "a")]))
        self.assert_stands_for_none(shape, None, "a", [None], 0)

    def test_records(self):
        self.assert_stands(("named", "P"), {"x": 1, "y": "a"}, (1, "a"))
        self.assert_stands(("named", "P"), {"y": "a", "x": 1}, (1, "a"))
        self.assert_stands(("named", "E"), {}, ())
        self.assert_stands_for_none(("named", "P"), {}, {"x": 1}, {"y": "a"}, {"x": 1, "y": "a", "z": 1}, {"x": 1, "z": "a"},
                                    {"x": "a", "y": 1}, {"x": 1, "y": None}, [1, "a"], None, "x", [])
        self.assert_stands_for_none(("named", "E"), {"a": 1}, [], None)
        self.assert_stands(("named", "L"), {"next": None}, ((0, None),))
        self.assert_stands_for_none(("named", "L"), {"next": {"next": None}}, {"next": 0})

    def test_a_nesting_of_64_and_of_65(self):
        names = {f"R{at}": ("record", f"R{at}", (("f", ("union", (("named", f"R{at - 1}") if at else ("int",),)), None, ()),), ())
                 for at in range(33)}
        schema = Schema(("null",), names)
        for kind in ("array", "map", "record"):
            shape, json, value = ("int",), 7, 7
            for at in range(32):
                if kind == "record":
                    shape, json, value = ("named", f"R{at}"), {"f": json}, ((0, value),)
                else:
                    shape, json, value = ("union", ((kind, shape),)), nested_value(kind, 1, json), (0, nested_value(kind, 1, value))
            self.assert_stands(shape, json, value, schema)
            self.assert_stands_for_none(("union", (shape,)), json, schema=schema)
            self.assert_stands_for_none(("array", shape), [json], schema=schema)
            self.assert_stands_for_none(("map", shape), {"a": json}, schema=schema)
        self.assert_stands_for_none(("named", "R32"), {"f": json}, schema=schema)
        for levels, fits in ((63, True), (64, True), (65, False)):
            for end, json_end, value_end in ((("array", ("int",)), [], []), (("map", ("int",)), {}, {}),
                                             (("named", "E"), {}, ()), (("union", (("int",),)), 7, (0, 7))):
                shape = nested_shape("union", levels - 1, end)
                if fits:
                    self.assert_stands(shape, json_end, nested_value("union", levels - 1, value_end))
                else:
                    self.assert_stands_for_none(shape, json_end)

    def test_forms_of_records_have_the_order_of_the_fields(self):
        self.assert_gives({"x": 1, "y": "a"}, form_of_json, DEFINITIONS, ("named", "P"), {"y": "a", "x": 1})
        self.assert_gives({"x": 1, "y": "a"}, form_of_json, DEFINITIONS, ("named", "P"), {"x": 1, "y": "a"})
        self.assert_gives([{"x": 1, "y": ""}], form_of_json, DEFINITIONS, ("array", ("named", "P")), [{"y": "", "x": 1}])

    def test_forms_of_maps_are_ascending(self):
        keys = ["", "\t", "\n", " ", "!", "0", "10", "2", "A", "B", "Z", "_", "a", "aB", "aa", "ab", "b", "~"]
        turned = {key: 1 for key in reversed(keys)}
        self.assert_gives({key: 1 for key in keys}, form_of_json, DEFINITIONS, ("map", ("int",)), turned)
        inside = ("union", (("map", ("map", ("named", "P"))),))
        self.assert_gives({"a": {}, "b": {"c": {"x": 1, "y": ""}, "d": {"x": 2, "y": ""}}}, form_of_json, DEFINITIONS, inside,
                          {"b": {"d": {"y": "", "x": 2}, "c": {"x": 1, "y": ""}}, "a": {}})

    def test_other_forms_stay(self):
        for shape, value in ((("named", "F2"), [1, 2]), (("named", "C"), "B"), (("array", ("int",)), [3, 1, 2]),
                             (("union", (("bytes",), ("null",))), [3, 1]), (("named", "E"), {}), (("boolean",), False)):
            self.assert_gives(value, form_of_json, DEFINITIONS, shape, value)

    def test_nothing_is_shared(self):
        for shape, value in ((("bytes",), [1]), (("named", "F2"), [1, 2]), (("array", ("int",)), [1]), (("map", ("int",)), {})):
            self.assertIsNot(value, value_of_json(DEFINITIONS, shape, value))
            self.assertIsNot(value, form_of_json(DEFINITIONS, shape, value))

    def test_values_that_are_told_by_json(self):
        chosen = random.Random(9)
        found = 0
        for schema in some_schemas(chosen, 200):
            value = some_value(chosen, schema)
            self.assertTrue(is_value(schema, schema.root, value))
            json = json_of(schema, schema.root, value)
            if json is not None:
                found += 1
                self.assert_gives(value, value_of_json, schema, schema.root, json[0])
                form = form_of_json(schema, schema.root, json[0])
                self.assertEqual(json[0], form)
                self.assertEqual(value, value_of_json(schema, schema.root, form))
        self.assertGreater(found, 50)


def json_of(schema, shape, value):
    """Returns a tuple with a JSON value that stands for a value, or None if there is none."""
    if shape[0] == "named":
        shape = schema.names[shape[1]]
    if shape[0] == "union":
        return json_of(schema, shape[1][0], value[1]) if value[0] == 0 else None
    if shape[0] == "long":
        return (value,) if abs(value) < 10 ** 15 else None
    if shape[0] == "array":
        parts = [json_of(schema, shape[1], item) for item in value]
        return None if None in parts else ([part[0] for part in parts],)
    if shape[0] == "map":
        parts = {key: json_of(schema, shape[1], item) for key, item in value.items()}
        return None if None in parts.values() else ({key: part[0] for key, part in parts.items()},)
    if shape[0] == "record":
        parts = {field[0]: json_of(schema, field[1], part) for field, part in zip(shape[2], value)}
        return None if None in parts.values() else ({key: part[0] for key, part in reversed(parts.items())},)
    return (value,)


if __name__ == "__main__":
    unittest.main()
