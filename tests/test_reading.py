"""Chapter 07: reading data of another schema."""

import itertools
import random
import unittest

from formkeeper.encoding import decode, encode, write_number
from formkeeper.errors import InvalidData, Truncated, Unreadable
from formkeeper.plans import make_plan, run_plan
from formkeeper.reading import branch_for, read_as, source_of
from formkeeper.schemas import Schema, parse_schema
from tests.changed_schemas import some_pairs
from tests.reading_reference import outcome, read_reference
from tests.some_schemas import PLAIN, some_schemas, some_value
from tests.support import ProgramTest, strictly

NULL, INT, LONG, BYTES, STRING = ("null",), ("int",), ("long",), ("bytes",), ("string",)
BOOLEAN = ("boolean",)


def array(item):
    return ("array", item)


def union(*branches):
    return ("union", branches)


def field(name, shape, *default, aliases=()):
    return (name, shape, default or None, aliases)


def record(name, *fields, aliases=()):
    return ("record", name, fields, aliases)


def schema_of(root, *definitions):
    return Schema(root, {definition[1]: definition for definition in definitions})


def one(definition):
    """Returns the schema whose root is this definition."""
    return schema_of(("named", definition[1]), definition)


class ReadingTest(ProgramTest):
    """What is asked of read_as is asked of the plan, too (points 08.1 and 08.2)."""

    def assert_reads(self, expected, writer, reader, octets, behind=None):
        end = len(octets) if behind is None else behind
        plan = self.called(make_plan, writer, reader)
        for ahead, rest in (([], []), ([7, 128], [255, 0])):
            given = ahead + octets + rest
            at = len(ahead)
            self.assert_gives((expected, at + end), read_as, writer, reader, given, at)
            for _ in range(2):
                self.assert_gives((expected, at + end), run_plan, plan, given, at)
        self.assert_gives((expected, end), read_as, writer, reader, octets)
        self.assert_gives((expected, end), run_plan, plan, octets)

    def assert_fails(self, error_class, place, writer, reader, octets):
        plan = self.called(make_plan, writer, reader)
        for ahead in ([], [7, 128]):
            at = len(ahead)
            self.assert_raises_at(error_class, at + place, read_as, writer, reader, ahead + octets, at)
            for _ in range(2):
                self.assert_raises_at(error_class, at + place, run_plan, plan, ahead + octets, at)

    def assert_unreadable(self, place, writer, reader, octets, decided=None):
        """Unreadable is raised at the place as soon as so many octets are there (all, if not told), whatever
        follows; fewer are Truncated."""
        decided = len(octets) if decided is None else decided
        for rest in ([], [0], [255, 128, 3]):
            self.assert_fails(Unreadable, place, writer, reader, octets + rest)
        for length in range(decided, len(octets)):
            self.assert_fails(Unreadable, place, writer, reader, octets[:length])
        for length in range(decided):
            self.assert_fails(Truncated, length, writer, reader, octets[:length])


class ExamplesTest(ReadingTest):

    def test_examples_of_the_document(self):
        old = parse_schema({"kind": "record", "name": "P", "fields": [{"name": "x", "kind": "int"}]})
        new = parse_schema({"kind": "record", "name": "P", "fields": [
            {"name": "y", "kind": "string", "default": "-"}, {"name": "z", "kind": "long", "aliases": ["x"]}]})
        self.assert_reads(("-", 3), old, new, [6])
        self.assert_fails(Unreadable, 1, schema_of(union(INT, STRING)), schema_of(LONG), [2, 2, 65])


class KindsTest(ReadingTest):
    """Points 07.2 and 07.3, steps 3 to 5."""

    VALUES = {"null": (None, []), "boolean": (True, [1]), "int": (-3, [5]), "long": (2, [4]), "bytes": ([65], [2, 65]),
              "string": ("A", [2, 65])}

    def test_each_pair_of_plain_shapes(self):
        turned = {("int", "long"): -3, ("long", "int"): 2, ("bytes", "string"): "A", ("string", "bytes"): [65]}
        for kind, goal in itertools.product(PLAIN, PLAIN):
            value, octets = self.VALUES[kind]
            writer, reader = schema_of((kind,)), schema_of((goal,))
            if kind == goal:
                self.assert_reads(value, writer, reader, octets)
            elif (kind, goal) in turned:
                self.assert_reads(turned[kind, goal], writer, reader, octets)
            else:
                self.assert_unreadable(0, writer, reader, octets, 0)

    def test_arrays_and_maps(self):
        shapes = {"array": array(INT), "map": ("map", INT), "int": INT, "bytes": BYTES, "string": STRING,
                  "choice": ("named", "C"), "fixed": ("named", "F"), "record": ("named", "R"), "null": NULL}
        definitions = (("choice", "C", ("A",), None, ()), ("fixed", "F", 1, ()), record("R"))
        for kind, goal in itertools.product(shapes, shapes):
            writer, reader = schema_of(shapes[kind], *definitions), schema_of(shapes[goal], *definitions)
            if kind != goal and {kind, goal} != {"bytes", "string"}:
                self.assert_unreadable(0, writer, reader, [0], 0)
        self.assert_reads([1, -1], schema_of(array(INT)), schema_of(array(LONG)), [4, 2, 1, 0])
        self.assert_reads({"b": 1, "a": 2}, schema_of(("map", LONG)), schema_of(("map", INT)), [4, 2, 98, 2, 2, 97, 4, 0])
        self.assert_reads([], schema_of(array(INT)), schema_of(array(STRING)), [0])
        self.assert_reads({}, schema_of(("map", INT)), schema_of(("map", STRING)), [0])
        self.assert_unreadable(1, schema_of(array(INT)), schema_of(array(STRING)), [2], 1)
        self.assert_unreadable(3, schema_of(("map", INT)), schema_of(("map", STRING)), [2, 2, 65], 3)

    def test_names(self):
        for make in (lambda name, aliases: ("fixed", name, 1, aliases),
                     lambda name, aliases: ("choice", name, ("A",), None, aliases),
                     lambda name, aliases: record(name, field("x", BOOLEAN), aliases=aliases)):
            value = {"fixed": [0], "choice": "A", "record": (False,)}[make("n", ())[0]]
            for name, aliases, other, others, is_fit in (
                ("a.N", (), "a.N", (), True),
                ("N", (), "M", ("N",), True),
                ("N", (), "M", ("L", "N", "N"), True),
                ("N", ("M",), "M", (), False),
                ("N", ("M",), "M", ("L",), False),
                ("a.N", (), "N", (), False),
                ("a.N", (), "b.N", ("N",), False),
                ("N", (), "n", (), False),
                ("N", (), "N", ("M",), True),
            ):
                writer, reader = one(make(name, aliases)), one(make(other, others))
                if is_fit:
                    self.assert_reads(value, writer, reader, [0])
                else:
                    self.assert_unreadable(0, writer, reader, [0], 0)

    def test_the_same_name_for_another_kind(self):
        definitions = [("fixed", "N", 1, ("N",)), ("choice", "N", ("A",), "A", ("N",)), record("N", aliases=("N",))]
        for written, wanted in itertools.permutations(definitions, 2):
            self.assert_unreadable(0, one(written), one(wanted), [0], 0)

    def test_ints_and_longs(self):
        for n in (0, -1, 64, 2 ** 31 - 1, -2 ** 31):
            self.assert_reads(n, schema_of(INT), schema_of(LONG), write_number(n))
            self.assert_reads(n, schema_of(LONG), schema_of(INT), write_number(n))
        for n in (2 ** 31, -2 ** 31 - 1, 2 ** 63 - 1, -2 ** 63):
            self.assert_unreadable(0, schema_of(LONG), schema_of(INT), write_number(n))
            self.assert_unreadable(1, schema_of(array(LONG)), schema_of(array(INT)), [2] + write_number(n))
            for goal in (INT, LONG):
                self.assert_fails(InvalidData, 0, schema_of(INT), schema_of(goal), write_number(n))
        for goal in (INT, LONG):
            self.assert_fails(InvalidData, 0, schema_of(LONG), schema_of(goal), [128, 0])
            self.assert_fails(InvalidData, 0, schema_of(LONG), schema_of(goal), [255] * 9 + [2])
            self.assert_fails(InvalidData, 0, schema_of(INT), schema_of(goal), [255] * 10)

    def test_bytes_and_strings(self):
        self.assert_reads([], schema_of(STRING), schema_of(BYTES), [0])
        self.assert_reads([9, 10, 32, 126], schema_of(STRING), schema_of(BYTES), [8, 9, 10, 32, 126])
        self.assert_reads("", schema_of(BYTES), schema_of(STRING), [0])
        self.assert_reads("\t\n ~", schema_of(BYTES), schema_of(STRING), [8, 9, 10, 32, 126])
        for octet in (0, 8, 11, 31, 37, 127, 128, 255):
            self.assert_unreadable(0, schema_of(BYTES), schema_of(STRING), [2, octet])
            self.assert_unreadable(0, schema_of(BYTES), schema_of(STRING), [6, 65, octet, 66])
            for goal in (STRING, BYTES):
                self.assert_fails(InvalidData, 2, schema_of(STRING), schema_of(goal), [6, 65, octet, 66])
        for shape, goal in ((STRING, BYTES), (BYTES, STRING)):
            self.assert_fails(InvalidData, 0, schema_of(shape), schema_of(goal), [1])
            self.assert_fails(Truncated, 2, schema_of(shape), schema_of(goal), [4, 65])

    def test_every_value_of_a_byte(self):
        for octet in range(256):
            found = outcome(read_as, schema_of(BYTES), schema_of(STRING), [2, octet])
            good = octet in (9, 10) or 32 <= octet <= 126 and octet != 37
            self.assertEqual((chr(octet), 2) if good else ("Unreadable", 0), found)


class UnionsTest(ReadingTest):
    """Point 07.3, steps 1 and 2, and branch_for."""

    def test_a_union_of_the_writer(self):
        writer = schema_of(union(NULL, INT, STRING, array(INT)))
        self.assert_reads(5, writer, schema_of(LONG), [2, 10])
        self.assert_reads("A", writer, schema_of(STRING), [4, 2, 65])
        self.assert_reads([65], writer, schema_of(BYTES), [4, 2, 65])
        self.assert_reads([1], writer, schema_of(array(LONG)), [6, 2, 2, 0])
        self.assert_unreadable(1, writer, schema_of(LONG), [0], 1)
        self.assert_unreadable(1, writer, schema_of(LONG), [4, 2, 65], 1)
        self.assert_unreadable(2, writer, schema_of(array(STRING)), [6, 2, 2, 0], 2)
        for octet in (1, 8):
            self.assert_fails(InvalidData, 0, writer, schema_of(LONG), [octet])
        self.assert_fails(Truncated, 0, writer, schema_of(LONG), [])
        self.assert_fails(InvalidData, 0, writer, schema_of(BOOLEAN), [8, 0])
        self.assert_fails(InvalidData, 0, writer, schema_of(LONG), [128, 0])

    def test_a_union_of_the_reader(self):
        reader = schema_of(union(NULL, LONG, BYTES, array(LONG), ("map", STRING)))
        self.assert_reads((0, None), schema_of(NULL), reader, [])
        self.assert_reads((1, 5), schema_of(INT), reader, [10])
        self.assert_reads((1, 2 ** 40), schema_of(LONG), reader, write_number(2 ** 40))
        self.assert_reads((2, [65]), schema_of(STRING), reader, [2, 65])
        self.assert_reads((2, [255]), schema_of(BYTES), reader, [2, 255])
        self.assert_reads((3, [1]), schema_of(array(INT)), reader, [2, 2, 0])
        self.assert_reads((4, {"A": "A"}), schema_of(("map", BYTES)), reader, [2, 2, 65, 2, 65, 0])
        self.assert_unreadable(0, schema_of(BOOLEAN), reader, [1], 0)
        self.assert_unreadable(1, schema_of(array(STRING)), reader, [2], 1)

    def test_a_union_as_a_union(self):
        writer = schema_of(union(NULL, INT, STRING))
        reader = schema_of(union(LONG, BYTES, NULL))
        self.assert_reads((2, None), writer, reader, [0])
        self.assert_reads((0, 5), writer, reader, [2, 10])
        self.assert_reads((1, [65]), writer, reader, [4, 2, 65])
        self.assert_reads((1, None), schema_of(union(NULL)), schema_of(union(INT, NULL)), [0])
        self.assert_unreadable(1, writer, schema_of(union(NULL, BYTES)), [2, 10], 1)
        self.assert_reads((1, []), writer, schema_of(union(NULL, BYTES)), [4, 0])

    def test_the_step_with_the_writer_comes_first(self):
        """The branch of the reader is chosen for the branch of the writer, not for the union."""
        writer = schema_of(union(LONG, INT))
        self.assert_reads((0, 3), writer, schema_of(union(INT, LONG)), [2, 6])
        self.assert_reads((1, 3), writer, schema_of(union(INT, LONG)), [0, 6])

    def test_a_branch_that_is_the_same_comes_ahead_of_turning(self):
        self.assert_reads((1, 5), schema_of(INT), schema_of(union(LONG, INT)), [10])
        self.assert_reads((0, 5), schema_of(INT), schema_of(union(LONG, NULL)), [10])
        self.assert_reads((2, [65]), schema_of(BYTES), schema_of(union(STRING, NULL, BYTES)), [2, 65])
        self.assert_reads((1, "A"), schema_of(BYTES), schema_of(union(NULL, STRING)), [2, 65])

    def test_a_branch_is_not_given_up(self):
        """The branch is chosen by the shapes alone; no other one is taken if the value cannot be read as it."""
        self.assert_unreadable(0, schema_of(LONG), schema_of(union(STRING, INT)), write_number(2 ** 31))
        reader = schema_of(union(("named", "R"), ("named", "S")), record("R", field("x", INT), aliases=("W",)),
                           record("S", aliases=("W",)))
        self.assert_unreadable(0, one(record("W")), reader, [], 0)
        self.assert_unreadable(0, one(("fixed", "R", 2, ())), schema_of(union(("named", "R")), ("fixed", "R", 3, ())),
                               [1, 2], 0)

    def test_the_branch_with_the_same_name_comes_first(self):
        names = (("fixed", "A", 1, ("N", "L")), ("fixed", "M", 1, ("N",)), ("fixed", "N", 1, ()))
        reader = schema_of(union(NULL, ("named", "A"), ("named", "M"), ("named", "N")), *names)
        for name, at in (("N", 3), ("M", 2), ("A", 1), ("L", 1)):
            self.assert_reads((at, [7]), one(("fixed", name, 1, ())), reader, [7])
            self.assert_gives(at, branch_for, one(("fixed", name, 1, ())), reader, ("named", name), reader.root[1])
        self.assert_unreadable(0, one(("fixed", "K", 1, ("A", "N"))), reader, [7], 0)

    def test_a_branch_of_the_same_name_and_another_kind(self):
        names = (("choice", "N", ("A",), None, ()), ("fixed", "M", 1, ("N",)))
        reader = schema_of(union(("named", "N"), ("named", "M")), *names)
        self.assert_reads((1, [7]), one(("fixed", "N", 1, ())), reader, [7])
        self.assert_reads((0, "A"), one(names[0]), reader, [0])
        self.assert_unreadable(0, one(record("N")), reader, [], 0)

    def test_branch_for(self):
        empty = Schema(NULL, {})
        branches = (NULL, LONG, STRING, array(NULL), ("map", INT))
        for shape, at in ((NULL, 0), (LONG, 1), (INT, 1), (STRING, 2), (BYTES, 2), (array(INT), 3), (("map", NULL), 4),
                          (BOOLEAN, None)):
            self.assert_gives(at, branch_for, empty, empty, shape, branches)
        self.assert_gives(None, branch_for, empty, empty, array(INT), (INT, BYTES))
        self.assert_gives(None, branch_for, one(record("R")), empty, ("named", "R"), (INT, BYTES))
        self.assert_gives(None, branch_for, empty, empty, INT, ())


class DefinitionsTest(ReadingTest):
    """Point 07.4 for what has a name, and source_of."""

    def test_fixed(self):
        for size, other in itertools.product((0, 1, 3, 64), repeat=2):
            writer, reader = one(("fixed", "F", size, ())), one(("fixed", "G", other, ("F",)))
            octets = list(range(100, 100 + size))
            if size == other:
                self.assert_reads(octets, writer, reader, octets)
            else:
                self.assert_unreadable(0, writer, reader, octets, 0)

    def test_choices(self):
        writer = one(("choice", "C", ("A", "B", "D"), "A", ()))
        same = one(("choice", "C", ("D", "X", "A", "B"), None, ()))
        for at, symbol in enumerate(("A", "B", "D")):
            self.assert_reads(symbol, writer, same, [2 * at])
        fewer = one(("choice", "C", ("D", "A"), None, ()))
        self.assert_reads("D", writer, fewer, [4])
        self.assert_unreadable(0, writer, fewer, [2])
        default = one(("choice", "C", ("D", "A"), "D", ()))
        self.assert_reads("D", writer, default, [2])
        self.assert_reads("A", writer, default, [0])
        for reader in (same, fewer, default):
            for octets in ([1], [6], [128, 0]):
                self.assert_fails(InvalidData, 0, writer, reader, octets)

    def test_the_default_of_the_writer_is_not_taken(self):
        writer = one(("choice", "C", ("A", "B"), "B", ()))
        self.assert_unreadable(0, writer, one(("choice", "C", ("B",), None, ())), [0])

    def test_fields_in_another_order(self):
        writer = one(record("R", field("a", INT), field("b", STRING), field("c", BOOLEAN)))
        for order in itertools.permutations((field("a", LONG), field("b", BYTES), field("c", BOOLEAN))):
            values = {"a": 3, "b": [65], "c": True}
            self.assert_reads(tuple(values[each[0]] for each in order), writer, one(record("R", *order)), [6, 2, 65, 1])

    def test_fields_that_are_renamed(self):
        writer = one(record("R", field("a", INT), field("b", INT), field("c", INT)))
        for name, aliases, expected in (
            ("a", ("b", "c"), 1), ("x", ("b", "a"), 2), ("x", ("none", "c", "b"), 3), ("x", ("x", "c", "c"), 3),
            ("c", ("c",), 3),
        ):
            self.assert_reads((expected,), writer, one(record("R", field(name, INT, aliases=aliases))), [2, 4, 6])

    def test_aliases_of_the_writer_do_not_count(self):
        writer = one(record("R", field("a", INT, aliases=("b",))))
        self.assert_unreadable(0, writer, one(record("R", field("b", INT))), [2], 0)
        self.assert_reads((9,), writer, one(record("R", field("b", INT, 9))), [2])

    def test_fields_that_change_their_names(self):
        writer = one(record("R", field("a", INT), field("b", INT)))
        reader = one(record("R", field("x", INT, aliases=("b",)), field("y", INT, aliases=("a",))))
        self.assert_reads((2, 1), writer, reader, [2, 4])

    def test_source_of(self):
        fields = (field("a", INT), field("b", INT, aliases=("x",)), field("c", INT))
        for name, aliases, at in (("a", (), 0), ("c", ("a",), 2), ("x", (), None), ("x", ("c", "b"), 2), ("x", ("z",), None),
                                  ("x", ("z", "b", "a"), 1)):
            self.assert_gives(at, source_of, field(name, STRING, aliases=aliases), fields)
        self.assert_gives(None, source_of, field("a", INT), ())

    def test_fields_that_are_left_out(self):
        writer = one(record("R", field("a", INT), field("b", STRING), field("c", BOOLEAN)))
        self.assert_reads((), writer, one(record("R")), [6, 2, 65, 1])
        self.assert_reads((True,), writer, one(record("R", field("c", BOOLEAN))), [6, 2, 65, 1])
        self.assert_reads((3,), writer, one(record("R", field("a", INT))), [6, 2, 65, 1])
        for reader in (one(record("R")), one(record("R", field("a", INT))), one(record("R", field("x", INT, 1)))):
            self.assert_fails(InvalidData, 2, writer, reader, [6, 2, 37, 1])
            self.assert_fails(InvalidData, 1, writer, reader, [6, 1, 2, 1])
            self.assert_fails(InvalidData, 3, writer, reader, [6, 2, 65, 2])
            self.assert_fails(Truncated, 3, writer, reader, [6, 2, 65])

    def test_all_shapes_are_left_out(self):
        reader = one(record("R"))
        inner = (record("S", field("x", union(NULL, ("named", "S"))), field("y", INT)), ("choice", "C", ("A", "B"), None, ()),
                 ("fixed", "F", 2, ()))
        for shape, octets in (
            (NULL, []), (BOOLEAN, [1]), (INT, [6]), (LONG, write_number(2 ** 40)), (BYTES, [4, 0, 255]), (STRING, [2, 65]),
            (array(INT), [3, 4, 2, 4, 2, 6, 0]), (("map", INT), [4, 2, 65, 2, 2, 66, 2, 0]),
            (union(NULL, INT), [2, 8]), (("named", "S"), [2, 2, 0, 2, 4, 6]), (("named", "C"), [2]), (("named", "F"), [9, 9]),
        ):
            definitions = {each[1]: each for each in inner}
            writer = Schema(("named", "R"), {"R": record("R", field("a", shape)), **definitions})
            self.assert_reads((), writer, reader, octets)
            for length in range(len(octets)):
                self.assert_fails(Truncated, length, writer, reader, octets[:length])
        doubled = one(record("R", field("a", ("map", INT))))
        self.assert_fails(InvalidData, 4, doubled, reader, [4, 2, 65, 2, 2, 65, 2, 0])
        counted = one(record("R", field("a", array(INT))))
        self.assert_fails(InvalidData, 1, counted, reader, [3, 2, 2, 4, 0])
        self.assert_fails(InvalidData, 0, counted, reader, write_number(10001))
        chosen = Schema(("named", "R"), {"R": record("R", field("a", union(NULL, ("named", "C")))), "C": inner[1]})
        self.assert_fails(InvalidData, 0, chosen, reader, [4])
        self.assert_fails(InvalidData, 1, chosen, reader, [2, 4])

    def test_new_fields_without_a_default(self):
        writer = one(record("R", field("a", INT)))
        reader = one(record("R", field("a", INT), field("b", NULL)))
        self.assert_unreadable(0, writer, reader, [2], 0)
        self.assert_unreadable(1, schema_of(array(("named", "R")), *writer.names.values()),
                               schema_of(array(("named", "R")), *reader.names.values()), [2, 2, 0], 1)
        self.assert_reads([], schema_of(array(("named", "R")), *writer.names.values()),
                          schema_of(array(("named", "R")), *reader.names.values()), [0])

    def test_new_fields_with_defaults_of_all_shapes(self):
        inner = (record("S", field("x", INT), field("y", union(STRING, NULL))), ("choice", "C", ("A", "B"), None, ()),
                 ("fixed", "F", 2, ()))
        for shape, default, value in (
            (NULL, None, None), (BOOLEAN, False, False), (INT, -1, -1), (LONG, 2 ** 40, 2 ** 40), (BYTES, [0, 255], [0, 255]),
            (STRING, "a\n", "a\n"), (array(INT), [1, 2], [1, 2]), (array(union(INT, NULL)), [1, 2], [(0, 1), (0, 2)]),
            (("map", INT), {"a": 1, "b": 2}, {"a": 1, "b": 2}), (union(NULL, INT), None, (0, None)),
            (union(("map", BYTES), NULL), {"a": [1]}, (0, {"a": [1]})), (("named", "C"), "B", "B"),
            (("named", "F"), [1, 2], [1, 2]), (("named", "S"), {"x": 1, "y": "z"}, (1, (0, "z"))),
            (array(("named", "S")), [{"x": 1, "y": "z"}], [(1, (0, "z"))]),
        ):
            definitions = {each[1]: each for each in inner}
            reader = Schema(("named", "R"), {"R": record("R", field("new", shape, default), field("a", INT)), **definitions})
            self.assert_reads((value, 3), one(record("R", field("a", INT))), reader, [6])
            self.assert_reads((value, 3), one(record("R", field("a", INT), field("b", INT))), reader, [6, 8])

    def test_a_default_is_not_taken_where_there_is_a_source(self):
        self.assert_reads((3,), one(record("R", field("a", INT))), one(record("R", field("a", INT, 7))), [6])
        self.assert_unreadable(0, one(record("R", field("a", INT))), one(record("R", field("a", STRING, "x"))), [6], 0)

    def test_defaults_are_not_shared(self):
        writer = one(record("R"))
        reader = one(record("R", field("a", array(INT), [1]), field("b", ("map", array(INT)), {"k": [2]})))
        plan = make_plan(writer, reader)
        for read in (lambda: read_as(writer, reader, []), lambda: run_plan(plan, [])):
            for _ in range(2):
                value, _ = read()
                self.assertEqual(([1], {"k": [2]}), value)
                value[0].append(5)
                value[1]["k"].append(6)
                value[1]["l"] = []

    def test_records_inside_themselves(self):
        writer = one(record("L", field("n", INT), field("next", union(NULL, ("named", "L")))))
        reader = schema_of(("named", "M"), record(
            "M", field("rest", union(("named", "M"), NULL), aliases=("next",)), field("n", LONG), field("k", INT, 7),
            aliases=("L",)))
        self.assert_reads(((0, ((1, None), 2, 7)), 1, 7), writer, reader, [2, 2, 4, 0])


class PlacesTest(ReadingTest):
    """Point 07.1: which error is raised, and its place."""

    def test_the_place_of_unreadable_inside_others(self):
        writer = one(record("R", field("a", INT), field("b", array(union(NULL, INT, LONG))), field("c", ("map", INT))))
        reader = one(record("R", field("a", INT), field("b", array(INT)), field("c", ("map", union(NULL, STRING)))))
        self.assert_unreadable(3, writer, reader, [2, 4, 0], 3)
        self.assert_unreadable(5, writer, reader, [2, 4, 2, 8, 0], 5)
        self.assert_unreadable(3, writer, reader, [2, 4, 4] + write_number(2 ** 31), 8)
        self.assert_unreadable(8, writer, reader, [2, 2, 2, 0, 0, 2, 2, 65], 8)
        self.assert_reads((1, [], {}), writer, reader, [2, 0, 0])

    def test_an_error_that_is_met_first_is_raised(self):
        writer = one(record("R", field("a", BOOLEAN), field("b", INT)))
        reader = one(record("R", field("a", BOOLEAN), field("b", STRING)))
        self.assert_unreadable(1, writer, reader, [1, 2], 1)
        self.assert_fails(InvalidData, 0, writer, reader, [2, 2])
        self.assert_fails(Truncated, 0, writer, reader, [])
        other = one(record("R", field("a", INT), field("b", INT)))
        self.assert_unreadable(0, writer, other, [2, 128, 0], 0)

    def test_the_order_is_that_of_the_writer(self):
        writer = one(record("R", field("a", INT), field("b", LONG)))
        reader = one(record("R", field("b", INT), field("a", STRING)))
        self.assert_unreadable(0, writer, reader, [2] + write_number(2 ** 31), 0)

    def test_errors_of_blocks(self):
        writer, reader = schema_of(array(INT)), schema_of(array(STRING))
        self.assert_fails(InvalidData, 0, writer, reader, write_number(10001))
        self.assert_fails(InvalidData, 1, writer, reader, [1, 1])
        self.assert_fails(Unreadable, 2, writer, reader, [1, 126, 2, 0])
        self.assert_fails(Unreadable, 2, writer, reader, [1, 0])
        for goal in (array(INT), array(LONG)):
            self.assert_fails(InvalidData, 1, writer, schema_of(goal), [3, 2, 2, 4, 0])
            self.assert_fails(InvalidData, 3, writer, schema_of(goal), [2, 2, 3, 6, 2, 4])
        writer, reader = schema_of(("map", LONG)), schema_of(("map", INT))
        self.assert_fails(InvalidData, 4, writer, reader, [4, 2, 65, 2, 2, 65] + write_number(2 ** 31))
        self.assert_fails(Unreadable, 6, writer, reader, [4, 2, 65, 2, 2, 66] + write_number(2 ** 31))
        self.assert_fails(Unreadable, 3, writer, reader, [4, 2, 65] + write_number(2 ** 31) + [2, 65])

    def nested(self, shape, levels):
        for _ in range(levels):
            shape = array(shape)
        return shape

    def test_what_lies_inside_64_others(self):
        reader_field = field("y", INT)
        for levels in (64, 65):
            for inner, goal in ((array(INT), array(LONG)), (("map", INT), ("map", LONG)), (union(INT), LONG),
                                (union(INT), union(NULL, LONG)), (array(INT), union(NULL, array(INT)))):
                writer, reader = schema_of(self.nested(inner, levels)), schema_of(self.nested(goal, levels))
                self.assert_fails(InvalidData, 64, writer, reader, [2] * 64)
                self.assert_fails(InvalidData, 64, writer, reader, [2] * 64 + [128, 0])
        for goal in (INT, ("map", INT), union(NULL, INT), union(NULL, ("map", INT))):
            self.assert_fails(Unreadable, 64, schema_of(self.nested(array(INT), 64)), schema_of(self.nested(goal, 64)),
                              [2] * 64)
        for fields, error_class in (((), InvalidData), ((field("x", INT),), InvalidData), ((reader_field,), Unreadable),
                                    ((field("x", STRING),), InvalidData), ((field("y", INT, 1),), InvalidData)):
            writer = schema_of(self.nested(("named", "R"), 64), record("R", field("x", INT)))
            for goal in (("named", "R"), union(NULL, ("named", "R"))):
                reader = schema_of(self.nested(goal, 64), record("R", *fields))
                self.assert_fails(error_class, 64, writer, reader, [2] * 64)
                self.assert_fails(error_class, 64, writer, reader, [2] * 64 + [128, 0])

    def test_maps_inside_64_others(self):
        writer, reader = INT, LONG
        for _ in range(65):
            writer, reader = ("map", writer), ("map", reader)
        self.assert_fails(InvalidData, 128, schema_of(writer), schema_of(reader), [2, 0] * 64)
        self.assert_fails(InvalidData, 128, schema_of(writer), schema_of(reader), [2, 0] * 65)
        self.assert_fails(Truncated, 127, schema_of(writer), schema_of(reader), [2, 0] * 63 + [2])

    def test_a_record_inside_63_others(self):
        writer = schema_of(self.nested(("named", "R"), 63), record("R", field("x", INT)))
        for fields, error_class, place in (((field("y", INT),), Unreadable, 63), ((field("x", STRING),), Unreadable, 63)):
            reader = schema_of(self.nested(("named", "R"), 63), record("R", *fields))
            self.assert_fails(error_class, place, writer, reader, [2] * 63)
        value = (1,)
        for _ in range(63):
            value = [value]
        reader = schema_of(self.nested(("named", "R"), 63), record("R", field("x", LONG)))
        self.assert_reads(value, writer, reader, [2] * 64 + [0] * 63)

    def test_a_field_that_is_dropped_inside_64_others(self):
        for levels, is_good in ((62, True), (63, False)):
            shape = ("named", "R")
            for _ in range(levels):
                shape = array(shape)
            writer = schema_of(shape, record("R", field("a", array(INT))))
            reader = schema_of(shape, record("R"))
            octets = [2] * levels + [0] + [0] * levels
            if is_good:
                self.assertEqual(len(octets), read_as(writer, reader, octets)[1])
            else:
                self.assert_fails(InvalidData, levels, writer, reader, octets)
                self.assert_fails(InvalidData, levels, writer, reader, octets[:levels])

    def test_a_value_that_nests_deeper_than_64(self):
        writer, reader = INT, union(NULL, LONG)
        value = (1, 1)
        for _ in range(64):
            writer, reader = array(writer), union(NULL, array(reader))
            value = (1, [value])
        self.assert_reads(value, schema_of(writer), schema_of(reader), [2] * 65 + [0] * 64)
        writer, reader, value = INT, LONG, 1
        for _ in range(64):
            writer, reader, value = ("map", writer), union(("map", reader)), (0, {"": value})
        self.assert_reads(value, schema_of(writer), schema_of(reader), [2, 0] * 64 + [2] + [0] * 64)

    def test_more_than_10000_items_in_several_blocks(self):
        block = write_number(10000) + [2] * 10000
        self.assert_reads([1] * 20000, schema_of(array(INT)), schema_of(array(LONG)), block * 2 + [0])
        octets = []
        expected = {}
        for begin in (0, 6000):
            octets.extend(write_number(6000))
            for at in range(begin, begin + 6000):
                octets.extend([10] + [ord(digit) for digit in f"{at:05}"] + [2])
                expected[f"{at:05}"] = 1
        octets.append(0)
        writer, reader = schema_of(("map", INT)), schema_of(("map", LONG))
        self.assert_gives((expected, len(octets)), read_as, writer, reader, octets)
        self.assert_gives((expected, len(octets)), run_plan, make_plan(writer, reader), octets)


class EqualSchemasTest(ReadingTest):
    """Point 07.5."""

    def test_reading_by_an_equal_reader_is_decoding(self):
        chosen = random.Random(20)
        for schema in some_schemas(chosen, 150):
            plan = make_plan(schema, schema)
            for _ in range(4):
                octets = encode(schema, some_value(chosen, schema))
                self.check(schema, plan, octets)
                for _ in range(6):
                    at = chosen.randrange(len(octets) + 1)
                    octet = chosen.choice([0, 1, 2, 3, 127, 128, 255, chosen.randrange(256)])
                    self.check(schema, plan, octets[:at] + [octet] + octets[at + chosen.randrange(2):])
                    self.check(schema, plan, octets[:at])

    def test_short_octets(self):
        names = (("choice", "C", ("A", "B"), "B", ()), record("T", field("t", array(("named", "T")))),
                 record("L", field("n", union(NULL, ("named", "L")))), ("fixed", "F", 2, ()))
        for shape in (NULL, BOOLEAN, INT, LONG, BYTES, STRING, array(BOOLEAN), ("map", NULL), union(NULL, BOOLEAN),
                      ("named", "C"), ("named", "T"), ("named", "L"), ("named", "F"), array(array(NULL))):
            schema = schema_of(shape, *names)
            plan = make_plan(schema, schema)
            for length in range(5):
                for octets in itertools.product((0, 1, 2, 3, 4, 65, 128), repeat=length):
                    self.check(schema, plan, list(octets))

    def check(self, schema, plan, octets):
        expected = strictly(outcome(decode, schema, octets))
        self.assertEqual(expected, strictly(outcome(read_as, schema, schema, octets)))
        self.assertEqual(expected, strictly(outcome(run_plan, plan, octets)))


class SecondReadingTest(ReadingTest):
    """All of the chapter, compared with a second reading of it."""

    def check(self, writer, reader, octets, at):
        found = outcome(self.called, read_as, writer, reader, octets, at)
        expected = outcome(read_reference, writer, reader, octets, at)
        self.assertEqual(strictly(expected), strictly(found), (writer.root, writer.names, reader.root, reader.names, octets))
        return found[0] if found[0] in ("Truncated", "InvalidData", "Unreadable") else "value"

    def test_pairs_of_schemas(self):
        chosen = random.Random(21)
        counts = {"value": 0, "Truncated": 0, "InvalidData": 0, "Unreadable": 0}
        for writer, reader in some_pairs(chosen, 400):
            for _ in range(3):
                octets = encode(writer, some_value(chosen, writer))
                counts[self.check(writer, reader, octets, 0)] += 1
                for _ in range(3):
                    at = chosen.randrange(len(octets) + 1)
                    octet = chosen.choice([0, 1, 2, 3, 127, 128, 255, chosen.randrange(256)])
                    changed = [5, 128] + octets[:at] + [octet] + octets[at + chosen.randrange(2):]
                    counts[self.check(writer, reader, changed, 2)] += 1
                    counts[self.check(writer, reader, octets[:at], 0)] += 1
        for kind in counts:
            self.assertGreater(counts[kind], 300, kind)


if __name__ == "__main__":
    unittest.main()
