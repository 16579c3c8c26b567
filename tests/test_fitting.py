"""Chapter 09: schemas that fit."""

import itertools
import random
import unittest
from unittest.mock import patch

from formkeeper.encoding import decode, encode, write_number
from formkeeper.errors import InvalidSchema, Unreadable
from formkeeper.fitting import fits, least_octets, least_unread
from formkeeper.reading import read_as
from formkeeper.schemas import Schema, check_sizes, parse_schema, reached_from
from formkeeper.values import nesting
from tests.changed_schemas import some_pairs
from tests.fitting_reference import Rules, is_unread, least_by_rules, search, unread_by_rules
from tests.some_schemas import PLAIN, some_schemas
from tests.support import ProgramTest
from tests.test_reading import (
    BOOLEAN, BYTES, INT, LONG, NULL, STRING, array, field, one, record, schema_of, union
)

TOO_LONG = [128, 128, 128, 128, 16]
OCTETS = [0, 1, 2, 3, 4, 6, 128]


class FittingTest(ProgramTest):

    def assert_unread(self, expected, writer, reader):
        """These are the least unread octets; read_as raises Unreadable for them."""
        self.assert_gives(expected, least_unread, writer, reader)
        self.assert_gives(expected is None, fits, writer, reader)
        if expected is not None:
            self.assertEqual(len(expected), decode(writer, expected)[1])
            self.assertTrue(is_unread(writer, reader, expected))
        self.assertEqual(expected, unread_by_rules(writer, reader))


class ExamplesTest(FittingTest):

    def test_examples_of_the_document(self):
        self.assert_unread(TOO_LONG, schema_of(LONG), schema_of(INT))
        old = parse_schema({"kind": "array", "items": {"kind": "choice", "name": "E", "symbols": ["A", "B"]}})
        new = parse_schema({"kind": "array", "items": {"kind": "choice", "name": "E", "symbols": ["A"]}})
        self.assert_unread([2, 2, 0], old, new)
        self.assert_unread(None, new, old)


class LeastTest(FittingTest):
    """least_octets, and `least` of point 09.3."""

    def assert_least(self, expected, root, *definitions):
        schema = schema_of(root, *definitions)
        self.assert_gives(expected, least_octets, schema)
        self.assertEqual(expected, least_by_rules(schema))
        value, end = decode(schema, expected)
        self.assertEqual(len(expected), end)
        self.assertLessEqual(nesting(schema, root, value), 64)
        self.assertEqual(expected, encode(schema, value))

    def test_each_kind(self):
        self.assert_least([], NULL)
        for shape in (BOOLEAN, INT, LONG, BYTES, STRING, array(INT), ("map", INT)):
            self.assert_least([0], shape)
        self.assert_least([0], ("named", "C"), ("choice", "C", ("B", "A"), "A", ()))
        for size in (0, 1, 64):
            self.assert_least([0] * size, ("named", "F"), ("fixed", "F", size, ()))
        self.assert_least([], ("named", "R"), record("R"))
        self.assert_least([0, 0, 0], ("named", "R"), record("R", field("a", INT), field("b", NULL), field("c", BYTES),
                                                            field("d", array(LONG))))

    def test_unions(self):
        fixed = [("fixed", f"F{size}", size, ()) for size in (1, 2, 3)]
        self.assert_least([0], union(NULL, INT))
        self.assert_least([2], union(INT, NULL))
        self.assert_least([0, 0], union(INT, LONG))
        self.assert_least([4, 0], union(("named", "F3"), ("named", "F2"), ("named", "F1")), *fixed)
        self.assert_least([2, 0, 0], union(("named", "F3"), ("named", "F2")), *fixed[1:])
        many = [("fixed", f"G{at}", 16 - at, ()) for at in range(16)]
        self.assert_least([30, 0], ("union", tuple(("named", each[1]) for each in many)), *many)

    def test_shapes_that_contain_themselves(self):
        self.assert_least([0], ("named", "L"), record("L", field("n", union(NULL, ("named", "L")))))
        self.assert_least([2], ("named", "L"), record("L", field("n", union(("named", "L"), NULL))))
        self.assert_least([0], ("named", "T"), record("T", field("t", array(("named", "T")))))
        self.assert_least([2, 0], ("named", "A"), record("A", field("b", union(("named", "B"), BYTES))),
                          record("B", field("a", ("named", "A")), field("c", INT), field("d", INT)))

    def test_defaults_make_no_difference(self):
        self.assert_least([0], ("named", "R"), record("R", field("a", INT, 5)))

    def test_a_least_encoding_that_would_nest_too_deep(self):
        """A chain of records, which would be least, in a branch; the other branch is taken where it is too deep."""
        for length in (60, 61, 62, 63, 64, 70):
            for levels in (0, 1, 2, 3):
                names = [record(f"R{at}", field("a", ("named", f"R{at + 1}"))) for at in range(length - 1)]
                names.append(record(f"R{length - 1}"))
                shape = union(("named", "R0"), BYTES)
                for at in range(levels):
                    names.append(record(f"S{at}", field("s", shape)))
                    shape = ("named", f"S{at}")
                self.assert_least([0] if length + 1 + levels <= 64 else [2, 0], shape, *names)

    def test_the_depth_of_each_part_counts_by_itself(self):
        chain = [record(f"R{at}", field("a", ("named", f"R{at + 1}"))) for at in range(61)] + [record("R61")]
        inner = union(("named", "R0"), INT)
        names = chain + [record("P", field("a", inner), field("b", union(("named", "Q"), LONG))),
                         record("Q", field("a", inner))]
        self.assert_least([0, 2, 0], ("named", "P"), *names)

    def test_made_by_chance(self):
        chosen = random.Random(50)
        for schema in some_schemas(chosen, 200):
            expected = least_by_rules(schema)
            self.assert_gives(expected, least_octets, schema)
            if len(expected) <= 4:
                self.assertEqual(expected, search(schema, lambda octets: True, 4, OCTETS))

    def test_records_that_contain_32_others(self):
        names = [record("A0", field("f", NULL))]
        for at in range(1, 40):
            names.append(record(f"A{at}", *[field(f"f{k}", ("named", f"A{at - 1}")) for k in range(32)]))
        schema = schema_of(("named", "A39"), *names)
        self.assert_gives([], least_octets, schema)
        self.assert_gives(None, least_unread, schema, schema)


class UnreadTest(FittingTest):
    """least_unread and fits, and `unread` of point 09.3."""

    def test_plain_shapes(self):
        never = {("int", "long"), ("string", "bytes")}
        found = {("long", "int"): TOO_LONG, ("bytes", "string"): [2, 0]}
        for kind, goal in itertools.product(PLAIN, PLAIN):
            expected = [] if kind == "null" else [0]
            if kind == goal or (kind, goal) in never:
                expected = None
            self.assert_unread(found.get((kind, goal), expected), schema_of((kind,)), schema_of((goal,)))

    def test_fixed(self):
        for size, other in itertools.product((0, 1, 3, 64), repeat=2):
            expected = None if size == other else [0] * size
            self.assert_unread(expected, one(("fixed", "F", size, ())), one(("fixed", "F", other, ())))
        self.assert_unread([0], one(("fixed", "F", 1, ("G",))), one(("fixed", "G", 1, ())))
        self.assert_unread(None, one(("fixed", "F", 1, ())), one(("fixed", "G", 1, ("F",))))

    def test_choices(self):
        symbols = ("A", "B", "D", "E")
        writer = one(("choice", "C", symbols, "A", ()))
        for count in range(1, 5):
            for others in itertools.permutations(symbols + ("X",), count):
                missing = [at for at, symbol in enumerate(symbols) if symbol not in others]
                expected = [2 * missing[0]] if missing else None
                self.assert_unread(expected, writer, one(("choice", "C", others, None, ())))
                self.assert_unread(None, writer, one(("choice", "C", others, others[0], ())))
        many = tuple(f"S{at}" for at in range(32))
        self.assert_unread([62], one(("choice", "C", many, None, ())), one(("choice", "C", many[:31], None, ())))

    def test_arrays_and_maps(self):
        self.assert_unread([2, 0, 0], schema_of(array(INT)), schema_of(array(STRING)))
        self.assert_unread([2, 0], schema_of(array(NULL)), schema_of(array(STRING)))
        self.assert_unread([2] + TOO_LONG + [0], schema_of(array(LONG)), schema_of(array(INT)))
        self.assert_unread([2, 0, 0, 0], schema_of(("map", INT)), schema_of(("map", STRING)))
        self.assert_unread([2, 0, 2, 0, 0], schema_of(("map", BYTES)), schema_of(("map", STRING)))
        self.assert_unread([2, 2, 0, 2, 0, 0, 0], schema_of(array(("map", BYTES))), schema_of(array(("map", STRING))))
        self.assert_unread(None, schema_of(array(INT)), schema_of(array(union(NULL, LONG))))
        self.assert_unread([0], schema_of(array(INT)), schema_of(("map", INT)))
        self.assert_unread([0], schema_of(("map", INT)), schema_of(INT))

    def test_unions_of_the_writer(self):
        self.assert_unread([0], schema_of(union(NULL, INT)), schema_of(INT))
        self.assert_unread([2, 0], schema_of(union(NULL, INT)), schema_of(NULL))
        self.assert_unread(None, schema_of(union(NULL, INT)), schema_of(union(LONG, NULL)))
        self.assert_unread([2] + TOO_LONG, schema_of(union(INT, LONG)), schema_of(INT))

    def test_a_later_branch_with_lesser_octets(self):
        self.assert_unread([2, 2, 0], schema_of(union(LONG, BYTES)), schema_of(union(INT, STRING)))
        self.assert_unread([4, 0], schema_of(union(LONG, BYTES, BOOLEAN)), schema_of(union(INT, STRING)))
        self.assert_unread([6], schema_of(union(LONG, BYTES, BOOLEAN, NULL)), schema_of(union(INT, STRING)))
        self.assert_unread([2, 0], schema_of(union(LONG, BOOLEAN, array(INT))), schema_of(INT))

    def test_unions_of_the_reader(self):
        self.assert_unread(TOO_LONG, schema_of(LONG), schema_of(union(STRING, INT)))
        self.assert_unread(None, schema_of(LONG), schema_of(union(INT, LONG)))
        self.assert_unread([0], schema_of(BOOLEAN), schema_of(union(INT, NULL)))
        self.assert_unread([2, 0], schema_of(BYTES), schema_of(union(INT, STRING)))
        self.assert_unread([2, 0, 0], schema_of(array(BOOLEAN)), schema_of(union(INT, array(INT))))
        names = (record("A", aliases=("W",)), record("W", field("new", INT)))
        self.assert_unread([], one(record("W")), schema_of(union(("named", "A"), ("named", "W")), *names))
        self.assert_unread(None, one(record("W")), schema_of(union(("named", "A")), names[0]))

    def test_records(self):
        writer = one(record("R", field("a", INT), field("b", LONG), field("c", BYTES)))
        self.assert_unread(None, writer, writer)
        self.assert_unread(None, writer, one(record("R")))
        self.assert_unread([0, 0, 0], writer, one(record("R", field("d", NULL))))
        self.assert_unread(None, writer, one(record("R", field("d", NULL, None))))
        self.assert_unread([0, 0, 0], writer, one(record("R", field("a", STRING))))
        self.assert_unread([0] + TOO_LONG + [0], writer, one(record("R", field("b", INT))))
        self.assert_unread([0, 0, 2, 0], writer, one(record("R", field("b", INT), field("c", STRING))))
        self.assert_unread([0, 0, 2, 0], writer, one(record("R", field("z", STRING, aliases=("c",)), field("b", INT))))

    def test_the_fields_of_equally_many_octets(self):
        """The order decides between the fields, from the first octet on in which they differ."""
        two = one(record("R", field("a", LONG), field("b", LONG)))
        self.assert_unread([0] + TOO_LONG, two, one(record("R", field("a", INT), field("b", INT))))
        choices = (("choice", "C", ("A", "B", "D"), None, ()), ("choice", "E", ("A", "B", "D"), None, ()))
        writer = schema_of(("named", "R"), record("R", field("a", ("named", "C")), field("b", ("named", "E"))), *choices)
        for symbols, others, expected in (
            (("A", "B"), ("A", "B"), [0, 4]), (("A", "B"), ("B",), [0, 0]), (("A", "D"), ("A", "B"), [0, 4]),
            (("A",), ("A",), [0, 2]), (("D",), ("A",), [0, 0]), (("A",), ("A", "B", "D"), [2, 0]),
        ):
            reader = schema_of(("named", "R"), writer.names["R"], ("choice", "C", symbols, None, ()),
                               ("choice", "E", others, None, ()))
            self.assert_unread(expected, writer, reader)

    def test_a_field_with_a_lesser_first_octet_and_more_octets(self):
        """The least of `union(F, null)` is [2]; what is not read begins with 0, and so is less than it in the order of
        the octets, but longer."""
        fixed = (("fixed", "F", 1, ()), ("fixed", "G", 1, ()))
        shape, goal = union(("named", "F"), NULL), union(NULL, ("named", "G"))
        cases = (
            ((shape, shape), [0, 0, 2]), ((NULL, shape), [0, 0]), ((shape, BYTES), [0, 0, 0]), ((BYTES, shape), [0, 0, 0]),
            ((array(NULL), shape), [0, 0, 0]), ((shape, array(NULL), shape), [0, 0, 0, 2]),
        )
        for shapes, expected in cases:
            writer = schema_of(("named", "R"), record("R", *[field(f"f{at}", each) for at, each in enumerate(shapes)]),
                               fixed[0])
            goals = [goal if each == shape else each for each in shapes]
            reader = schema_of(("named", "R"), record("R", *[field(f"f{at}", each) for at, each in enumerate(goals)]),
                               fixed[1])
            self.assert_unread(expected, writer, reader)

    def test_how_a_branch_stands_to_the_least_octets(self):
        """The same branch has the least octets and those that are not read: it is the value in it that decides."""
        shape = union(("named", "F"), NULL)
        inner = (("fixed", "F", 1, ()), record("S", field("s", shape)))
        writer = schema_of(("named", "R"), record("R", field("a", union(("named", "S"))), field("b", shape)), *inner)
        reader = schema_of(("named", "R"), writer.names["R"], ("fixed", "F", 2, ()), inner[1])
        self.assert_unread([0, 0, 0, 2], writer, reader)
        choices = (("choice", "C", ("A", "B"), None, ()), ("choice", "E", ("A", "B"), None, ()))
        rows = record("R", field("a", union(("named", "C"))), field("b", ("named", "E")))
        writer = schema_of(("named", "R"), rows, *choices)
        others = (("choice", "C", ("B",), None, ()), ("choice", "E", ("A",), None, ()))
        self.assert_unread([0, 0, 0], writer, schema_of(("named", "R"), rows, *others))

    def test_shapes_that_contain_themselves(self):
        node = record("L", field("next", union(NULL, ("named", "L"))), field("n", LONG))
        other = record("L", field("next", union(NULL, ("named", "L"))), field("n", INT))
        self.assert_unread([0] + TOO_LONG, one(node), one(other))
        self.assert_unread(None, one(other), one(node))
        tree = record("T", field("t", array(("named", "T"))))
        self.assert_unread(None, one(tree), one(tree))
        outer = record("T", field("t", array(("named", "U"))))
        self.assert_unread([2, 0, 0], one(tree), schema_of(
            ("named", "T"), outer, record("U", field("t", array(("named", "T"))))))
        self.assert_unread(None, one(tree), schema_of(
            ("named", "T"), outer, record("U", field("t", array(("named", "T"))), field("x", INT, 1), aliases=("T",))))
        self.assert_unread([2, 2, 0, 0, 0], one(tree), schema_of(
            ("named", "T"), outer, record("U", field("t", array(("named", "V"))), aliases=("T",)),
            record("V", field("t", array(("named", "V"))), field("x", INT), aliases=("T",))))

    def test_a_schema_with_itself(self):
        chosen = random.Random(51)
        for schema in some_schemas(chosen, 150):
            self.assert_gives(None, least_unread, schema, schema)
            self.assert_gives(True, fits, schema, schema)

    def chain(self, length, inner):
        """Returns the definitions of records that lie inside one another, the last one with a field."""
        names = [record(f"R{at}", field("a", ("named", f"R{at + 1}"))) for at in range(length - 1)]
        return names + [record(f"R{length - 1}", field("a", inner))]

    def test_values_of_a_nesting_of_64_and_65(self):
        for length in (62, 63, 64, 65, 66):
            writer = schema_of(("named", "R0"), *self.chain(length, union(NULL, LONG)))
            reader = schema_of(("named", "R0"), *self.chain(length, union(NULL, INT)))
            self.assert_unread([2] + TOO_LONG if length + 1 <= 64 else None, writer, reader)
            writer = schema_of(("named", "R0"), *self.chain(length, LONG))
            reader = schema_of(("named", "R0"), *self.chain(length, INT))
            self.assert_unread(TOO_LONG if length <= 64 else None, writer, reader)
            reader = schema_of(("named", "R0"), *self.chain(length, STRING))
            self.assert_unread([0] if length <= 64 else None, writer, reader)

    def test_a_value_that_is_not_read_lies_deeper_than_the_least_one(self):
        for length, is_good in ((61, True), (62, True), (63, False), (64, False)):
            writer = schema_of(("named", "R0"), *self.chain(length, union(array(BYTES), NULL)))
            reader = schema_of(("named", "R0"), *self.chain(length, union(array(STRING), NULL)))
            self.assert_unread([0, 2, 2, 0, 0] if is_good else None, writer, reader)

    def test_the_branch_that_does_not_nest_too_deep(self):
        """The lesser octets would nest too deep, so the others are the least unread ones."""
        for length, is_good in ((62, True), (63, True), (64, False)):
            names = self.chain(length, NULL)
            writer = schema_of(union(("named", "R0"), BOOLEAN), *names)
            self.assert_unread([0] if is_good else [2, 0], writer, schema_of(INT))
            self.assert_unread([2, 0], writer, schema_of(("named", "R0"), *names))
            both = schema_of(union(("named", "R0"), ("named", "R1")), *names)
            self.assert_unread([0] if is_good else [2], both, schema_of(INT))

    def test_a_part_beside_it_that_would_nest_too_deep(self):
        """A record has no value if a field of it has none that is not too deep."""
        for length, is_good in ((62, True), (63, True), (64, False)):
            names = self.chain(length, NULL)
            writer = schema_of(("named", "P"), record("P", field("a", ("named", "R0")), field("b", union(NULL, INT))), *names)
            reader = schema_of(("named", "P"), record("P", field("b", union(NULL, BOOLEAN))))
            self.assert_unread([2, 0] if is_good else None, writer, reader)
            self.assert_unread([0] if is_good else None, writer, schema_of(STRING))

    def test_octets_out_of_all_bounds(self):
        """What nests too deep makes a part longer than any list; the rest is found all the same."""
        chain = self.chain(64, NULL)
        names = [record("A0", field("f", union(("named", "R0"), INT)))]
        for at in range(1, 25):
            names.append(record(f"A{at}", *[field(f"f{k}", union(("named", "R0"), ("named", f"A{at - 1}")))
                                            for k in range(32)]))
        writer = schema_of(("named", "P"), record("P", field("a", union(("named", "A24"), LONG))), *names, *chain)
        self.assert_gives([2, 0], least_octets, writer)
        reader = schema_of(("named", "P"), record("P", field("a", union(("named", "A24"), INT))), *names, *chain)
        self.assert_gives([2] + TOO_LONG, least_unread, writer, reader)
        whole = schema_of(("named", "P"), record("P", field("a", ("named", "A24"))), *names, *chain)
        self.assert_gives(False, fits, whole, schema_of(INT))
        self.assert_gives(True, fits, whole, whole)


class ChanceTest(FittingTest):
    """All of the chapter, compared with the rules over whole lists, and with a search."""

    def test_pairs_of_schemas(self):
        chosen = random.Random(52)
        unread = 0
        for writer, reader in some_pairs(chosen, 500):
            expected = unread_by_rules(writer, reader)
            self.assert_unread(expected, writer, reader)
            unread += expected is not None
        self.assertGreater(unread, 100)

    def test_a_search_over_all_short_lists_of_octets(self):
        chosen = random.Random(53)
        found = 0
        for writer, reader in some_pairs(chosen, 250):
            expected = least_unread(writer, reader)
            longest = 4 if expected is None else min(4, len(expected))
            octets = search(writer, lambda octets: is_unread(writer, reader, octets), longest, OCTETS)
            if expected is not None and len(expected) <= 4 and set(expected) <= set(OCTETS):
                self.assertEqual(expected, octets)
                found += 1
            else:
                self.assertIsNone(octets)
        self.assertGreater(found, 30)

    def shape(self, chosen, names, depth):
        kind = chosen.randrange(8 if depth else 4)
        if kind == 0:
            return (chosen.choice(PLAIN),)
        if kind <= 3:
            return ("named", chosen.choice(names))
        if kind <= 5:
            return (("array", "map")[kind - 4], self.shape(chosen, names, depth - 1))
        branches = [self.shape(chosen, names, depth - 1) for _ in range(chosen.randrange(1, 4))]
        found = {branch[-1] if branch[0] == "named" else branch[0]: branch for branch in branches if branch[0] != "union"}
        return ("union", tuple(found.values()) or (NULL,))

    def schema(self, chosen):
        """Returns a schema of few definitions that use one another."""
        while True:
            names = [f"A{at}" for at in range(chosen.randrange(1, 6))]
            made = {}
            for name in names:
                kind = chosen.randrange(8)
                fields = [field(f"f{at}", self.shape(chosen, names, 2)) for at in range(chosen.randrange(4))]
                made[name] = record(name, *fields)
                if kind == 0:
                    made[name] = ("choice", name, tuple(chosen.sample("ABC", 2)), None, ())
                if kind == 1:
                    made[name] = ("fixed", name, chosen.randrange(3), ())
            root = self.shape(chosen, names, 2)
            try:
                reached = reached_from(root, made)
                check_sizes(reached)
                return Schema(root, reached)
            except InvalidSchema:
                pass

    def changed(self, chosen, schema):
        """Returns a schema that differs in some shapes, or None if it has no values."""
        def other(shape):
            if chosen.randrange(8) == 0:
                return ({"int": "long", "long": "int", "bytes": "string", "string": "bytes"}.get(shape[0], "null"),)
            if shape[0] == "union":
                return ("union", shape[1][:chosen.choice([1, len(shape[1])])])
            return (shape[0], other(shape[1])) if shape[0] in ("array", "map") else shape
        names = {}
        for name, definition in schema.names.items():
            if definition[0] == "record":
                fields = [field(each[0], other(each[1])) for each in definition[2]]
                chosen.shuffle(fields)
                definition = record(name, *fields[:chosen.choice([len(fields), len(fields), 2])])
            elif definition[0] == "choice" and chosen.randrange(2):
                definition = ("choice", name, definition[2][:1], None, ())
            names[name] = definition
        try:
            check_sizes(names)
        except InvalidSchema:
            return None
        return Schema(other(schema.root), names)

    def test_with_other_bounds_for_the_nesting(self):
        """The rules for small rooms make many schemas whose least octets would nest too deep."""
        chosen = random.Random(54)
        differing = 0
        for _ in range(1200):
            writer = self.schema(chosen)
            reader = self.changed(chosen, writer)
            if reader is None:
                continue
            told = []
            for room in (1, 2, 3, 4, 6, 64):
                rules = Rules(writer, reader)
                told.append(rules.unread(writer.root, reader.root, room))
                with patch("formkeeper.least.DEEPEST_NESTING", room):
                    self.assertEqual(told[-1], least_unread(writer, reader))
                    self.assertEqual(told[-1] is None, fits(writer, reader))
                    if rules.least(writer.root, room) is not None:
                        self.assertEqual(rules.least(writer.root, room), least_octets(writer))
            differing += len({str(each) for each in told if each is not None}) > 1
        self.assertGreater(differing, 15)


class BoundsTest(FittingTest):
    """No time that grows out of bounds."""

    def web(self, chosen, leaf):
        names = [f"D{at}" for at in range(40)]
        found = []
        for name in names:
            fields = [field(f"f{k}", ("union", (NULL,) + tuple(("named", each) for each in chosen.sample(names, 15))))
                      for k in range(31)]
            found.append(record(name, *fields, field("z", leaf)))
        return schema_of(("named", "D0"), *found)

    def test_many_definitions_that_use_one_another(self):
        writer, reader = self.web(random.Random(55), LONG), self.web(random.Random(55), INT)
        self.assert_gives([0] * 31 + TOO_LONG, least_unread, writer, reader)
        self.assert_gives(None, least_unread, reader, writer)
        self.assert_gives([0] * 32, least_octets, writer)

    def test_records_inside_records(self):
        def tower(leaf):
            names = [record("A0", field("f", leaf))]
            for at in range(1, 31):
                names.append(record(f"A{at}", *[field(f"f{k}", union(NULL, ("named", f"A{at - 1}"))) for k in range(32)]))
            return schema_of(("named", "A30"), *names)
        octets = TOO_LONG
        for _ in range(30):
            octets = [0] * 31 + [2] + octets
        self.assert_gives(octets, least_unread, tower(LONG), tower(INT))


if __name__ == "__main__":
    unittest.main()
