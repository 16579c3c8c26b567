"""Chapter 08: plans. (tests/test_reading.py asks all that it asks of read_as of plans, too.)"""

import copy
import random
import unittest

from formkeeper.encoding import encode
from formkeeper.errors import InvalidData, Truncated, Unreadable
from formkeeper.plans import Plan, make_plan, run_plan
from formkeeper.reading import read_as
from formkeeper.schemas import Schema, parse_schema
from tests.changed_schemas import some_pairs
from tests.reading_reference import outcome, read_reference
from tests.some_schemas import some_value
from tests.support import ProgramTest, strictly

NODE = {"kind": "record", "name": "Node", "fields": [
    {"name": "left", "kind": ["null", "Node"]}, {"name": "right", "kind": {"kind": "array", "items": "Node"}},
    {"name": "worth", "kind": "long"}]}
OTHER = {"kind": "record", "name": "Other", "aliases": ["Node"], "fields": [
    {"name": "value", "kind": ["int", "string"], "aliases": ["worth"]},
    {"name": "right", "kind": {"kind": "array", "items": "Other"}},
    {"name": "tags", "kind": {"kind": "array", "items": "string"}, "default": ["x"]},
    {"name": "left", "kind": ["Other", "null"]}]}


class PlansTest(ProgramTest):

    def test_examples_of_the_document(self):
        plan = make_plan(Schema(("int",), {}), Schema(("union", (("null",), ("long",))), {}))
        self.assert_gives(((1, 4), 2), run_plan, plan, [7, 8], 1)

    def test_a_plan_is_a_list_of_tuples_of_a_word_and_arguments(self):
        plan = make_plan(parse_schema(NODE), parse_schema(OTHER))
        self.assertIs(Plan, plan.__class__)
        self.assertIs(list, plan.steps.__class__)
        for step in plan.steps:
            self.assertIs(tuple, step.__class__)
            self.assertIs(str, step[0].__class__)
        steps = [("a",)]
        self.assertIs(steps, Plan(steps).steps)
        self.assert_gives(((1, 4), 2), run_plan, Plan(make_plan(
            Schema(("int",), {}), Schema(("union", (("null",), ("long",))), {})).steps), [7, 8], 1)

    def test_the_first_step_is_that_of_the_roots(self):
        plan = make_plan(Schema(("array", ("int",)), {}), Schema(("array", ("string",)), {}))
        self.assert_gives(([], 1), run_plan, plan, [0])
        self.assert_raises_at(Unreadable, 1, run_plan, plan, [2, 2, 0])

    def test_shapes_that_contain_themselves(self):
        writer, reader = parse_schema(NODE), parse_schema(OTHER)
        for plan in (make_plan(writer, reader), make_plan(writer, writer)):
            self.assertLess(len(plan.steps), 20)
        plan = make_plan(writer, reader)
        leaf = ((0, 5), [], ["x"], (1, None))
        octets = encode(writer, ((1, ((0, None), [], 5)), [((0, None), [], 5)], -1))
        self.assert_gives((((0, -1), [leaf], ["x"], (0, leaf)), len(octets)), run_plan, plan, octets)
        for length in range(len(octets)):
            self.assert_raises_at(Truncated, length, run_plan, plan, octets[:length])
        self.assert_raises_at(InvalidData, 32, run_plan, plan, [2] * 40)
        self.assert_raises_at(Unreadable, 2, run_plan, plan, [0, 0, 128, 128, 128, 128, 16])

    def test_shapes_that_contain_themselves_and_are_dropped(self):
        writer = Schema(("named", "R"), {
            "R": ("record", "R", (("a", ("named", "Node"), None, ()), ("b", ("int",), None, ())), ()),
            **parse_schema(NODE).names})
        reader = Schema(("named", "R"), {"R": ("record", "R", (("b", ("long",), None, ()),), ())})
        plan = make_plan(writer, reader)
        octets = encode(writer, (((1, ((0, None), [], 5)), [((0, None), [], 5)], -1), 9))
        for _ in range(2):
            self.assert_gives(((9,), len(octets)), run_plan, plan, octets)

    def test_records_that_are_read_as_several_others(self):
        """Each pair of shapes has a step of its own."""
        names = {f"R{at}": ("record", f"R{at}", (("a", ("union", (("null",), ("named", f"R{(at + 1) % 3}"))), None, ()),
                                                ("b", ("int",), None, ())), ()) for at in range(3)}
        others = {f"S{at}": ("record", f"S{at}", (("b", (("int", "long")[at],), None, ()),
                                                 ("a", ("union", (("named", f"S{1 - at}"), ("null",))), None, ())),
                             ("R0", "R1", "R2")) for at in range(2)}
        writer, reader = Schema(("named", "R0"), names), Schema(("named", "S0"), others)
        plan = make_plan(writer, reader)
        value, expected = ((0, None), 30), (30, (1, None))
        for n in range(29):
            value, expected = ((1, value), n), (n, (0, expected))
        octets = encode(writer, value)
        self.assert_gives((expected, len(octets)), run_plan, plan, octets)
        self.assert_gives((expected, len(octets)), read_as, writer, reader, octets)
        self.assertLess(len(plan.steps), 40)

    def test_values_share_nothing_of_a_default(self):
        """Each value that is read has lists and dicts of its own, at all depths."""
        reader = parse_schema({"kind": "record", "name": "P", "fields": [
            {"name": "a", "kind": {"kind": "array", "items": {"kind": "array", "items": "bytes"}}, "default": [[[1]]]},
            {"name": "b", "kind": {"kind": "map", "values": {"kind": "map", "values": "bytes"}}, "default": {"x": {"y": [2]}}},
            {"name": "c", "kind": [{"kind": "array", "items": "bytes"}], "default": [[3]]}]})
        writer = Schema(("named", "P"), {"P": ("record", "P", (), ())})
        plan = make_plan(writer, reader)
        for read in (lambda: run_plan(plan, [])[0], lambda: read_as(writer, reader, [])[0]):
            for _ in range(2):
                value = read()
                self.assertEqual(([[[1]]], {"x": {"y": [2]}}, (0, [[3]])), value)
                value[0][0][0].append(9)
                value[0][0].append([])
                value[0].append([])
                value[1]["x"]["y"].append(9)
                value[1]["x"]["z"] = []
                value[1]["z"] = {}
                value[2][1][0].append(9)
                value[2][1].append([])

    def test_running_does_not_look_at_the_schemas(self):
        writer, reader = parse_schema(NODE), parse_schema(OTHER)
        plan = make_plan(writer, reader)
        octets = encode(writer, ((1, ((0, None), [], 5)), [], -1))
        expected = copy.deepcopy(run_plan(plan, octets))
        field = reader.names["Other"][2][2]
        self.assertEqual("tags", field[0])
        field[2][0].append("y")
        for schema in (writer, reader):
            schema.names.clear()
            schema.root = ("null",)
        self.assert_gives(expected, run_plan, plan, octets)

    def test_whole_and_spoilt_and_cut_octets(self):
        chosen = random.Random(30)
        for writer, reader in some_pairs(chosen, 250):
            plan = self.called(make_plan, writer, reader)
            for _ in range(3):
                octets = encode(writer, some_value(chosen, writer))
                self.check(writer, reader, plan, octets, 0)
                for _ in range(4):
                    at = chosen.randrange(len(octets) + 1)
                    octet = chosen.choice([0, 1, 2, 3, 127, 128, 255, chosen.randrange(256)])
                    spoilt = octets[:at] + [octet] + octets[at + chosen.randrange(2):]
                    self.check(writer, reader, plan, spoilt, 0)
                    self.check(writer, reader, plan, [1, 255, 0] + spoilt + [7], 3)
                    self.check(writer, reader, plan, octets[:at], 0)

    def check(self, writer, reader, plan, octets, at):
        expected = strictly(outcome(read_as, writer, reader, octets, at))
        self.assertEqual(strictly(outcome(read_reference, writer, reader, octets, at)), expected)
        for _ in range(2):
            self.assertEqual(expected, strictly(outcome(self.called, run_plan, plan, octets, at)))


class BoundsTest(ProgramTest):
    """No plan grows out of bounds."""

    def test_records_that_contain_32_others(self):
        def tower(leaf):
            names = {"A0": ("record", "A0", (("f", leaf, None, ()),), ())}
            for at in range(1, 30):
                shape = ("union", (("null",), ("named", f"A{at - 1}")))
                names[f"A{at}"] = ("record", f"A{at}", tuple((f"f{k}", shape, None, ()) for k in range(32)), ())
            return Schema(("named", "A29"), names)
        writer, reader = tower(("long",)), tower(("int",))
        plan = make_plan(writer, reader)
        self.assertLess(len(plan.steps), 200)
        self.assert_gives((((0, None),) * 32, 32), run_plan, plan, [0] * 32)

    def test_many_definitions_with_many_aliases(self):
        def web(letter, step, leaf, aliases):
            names = {}
            for at in range(60):
                fields = [(f"f{k}", ("array", ("named", f"{letter}{(at * step + k) % 60}")), None, ()) for k in range(10)]
                names[f"{letter}{at}"] = ("record", f"{letter}{at}", tuple(fields + [("g", leaf, None, ())]), aliases)
            return Schema(("named", f"{letter}0"), names)
        writer, reader = web("w", 7, ("long",), ()), web("r", 11, ("int",), tuple(f"w{at}" for at in range(60)))
        plan = make_plan(writer, reader)
        self.assertLess(len(plan.steps), 8000)
        self.assert_gives((([],) * 10 + (4,), 11), run_plan, plan, [0] * 10 + [8])

    def test_many_records_of_which_the_same_fields_are_dropped(self):
        """What is dropped has its steps once, however many records of the reader leave it out."""
        inner = ("array", ("union", (("null",), ("map", ("int",)))))
        big = ("union", (("null",), inner, ("map", ("array", ("map", ("int",))))))
        fields = tuple((f"f{at}", ("array", big), None, ()) for at in range(31)) + (("g", ("int",), None, ()),)
        names = {"W": ("record", "W", fields, ())}
        others = {}
        rows, goals = [], []
        for at in range(32):
            name = f"R{at}"
            others[name] = ("record", name, (("g", (("int", "long")[at % 2],), None, ()),), ("W",))
            rows.append((f"a{at}", ("array", ("named", "W")), None, ()))
            goals.append((f"a{at}", ("array", ("named", name)), None, ()))
        writer = Schema(("named", "T"), {"T": ("record", "T", tuple(rows), ()), **names})
        reader = Schema(("named", "T"), {"T": ("record", "T", tuple(goals), ()), **others})
        plan = make_plan(writer, reader)
        self.assertLess(len(plan.steps), 150)
        self.assert_gives((([],) * 32, 32), run_plan, plan, [0] * 32)


if __name__ == "__main__":
    unittest.main()
