"""The opening of "The interface", and points 00.1 to 00.3, over the whole program."""

import ast
import builtins
import doctest
import importlib
import inspect
import pathlib
import re
import unittest

from formkeeper import errors
from formkeeper.clients import Client
from formkeeper.containers import ContainerWriter
from formkeeper.disk import Disk
from formkeeper.http import Answer, Reader, Request
from formkeeper.journal import Journal
from formkeeper.keeper import Keeper
from formkeeper.lines import Line
from formkeeper.plans import Plan
from formkeeper.registry import Registry
from formkeeper.schemas import Schema
from formkeeper.service import Service, Session
from formkeeper.worlds import World

ROOT = pathlib.Path(__file__).resolve().parent.parent

# For each file, its functions and classes with their arguments; below each class, its methods.
INTERFACE = {
    "errors": {"FormkeeperError": ("place", {})},
    "texts": {"encode_text": "text", "decode_text": "octets", "is_text": "text"},
    "jsontext": {"parse_json": "text", "write_json": "value"},
    "schemas": {
        "Schema": ("root, names", {}), "parse_schema": "value, known=None", "definitions_of": "schema",
        "is_simple_name": "text", "is_full_name": "text",
    },
    "canonical": {"canonical_json": "schema", "canonical_text": "schema"},
    "values": {
        "is_value": "schema, shape, value", "nesting": "schema, shape, value", "value_of_json": "schema, shape, value",
        "form_of_json": "schema, shape, value",
    },
    "encoding": {"write_number": "n", "read_number": "octets, at", "encode": "schema, value", "decode": "schema, octets, at=0"},
    "reading": {
        "read_as": "writer, reader, octets, at=0", "source_of": "field, fields", "branch_for": "writer, reader, shape, branches",
    },
    "plans": {"Plan": ("steps", {}), "make_plan": "writer, reader", "run_plan": "plan, octets, at=0"},
    "fitting": {"least_octets": "schema", "least_unread": "writer, reader", "fits": "writer, reader"},
    "sums": {"sum_of": "octets"},
    "disk": {"Disk": ("", {
        "append": "name, octets", "sync": "name", "rename": "name, new", "remove": "name", "sync_names": "", "names": "",
        "read": "name", "allow": "count", "lose": "choices",
    })},
    "journal": {"Journal": ("disk", {
        "snapshot": "", "base": "", "records": "", "last": "", "torn": "", "append": "record", "sync": "", "compact": "snapshot",
    })},
    "registry": {"Registry": ("", {
        "ask": "command", "change": "client, request, command", "remembered": "client", "schema": "number",
    })},
    "states": {"write_change": "client, request, command", "read_change": "octets", "write_state": "registry", "read_state": "octets"},
    "keeper": {"Keeper": ("disk, *, limit=100", {
        "ask": "command", "change": "client, request, command", "change_all": "changes", "registry": "",
    })},
    "containers": {
        "ContainerWriter": ("schema, mark", {"add": "value", "close_block": "", "octets": ""}), "read_head": "octets",
        "read_container": "octets, reader=None", "save_container": "octets",
    },
    "http": {
        "Request": ("method, target, headers, body", {}), "Answer": ("status, headers, body", {}),
        "write_message": "message, chunks=None", "Reader": ("kind", {"feed": "octets", "finish": ""}),
    },
    "service": {
        "escape": "text", "unescape": "text", "request_of": "command, client='', number=0", "command_of": "request",
        "answer_octets": "answer", "told_answer": "message", "Service": ("keeper", {"answer": "request"}),
        "Session": ("service", {"receive": "octets"}),
    },
    "lines": {"Line": ("session", {"send": "octets", "deliver": "count", "receive": "count", "cut": ""})},
    "messages": {
        "write_message_of": "number, schema, value", "number_of": "octets", "read_message_as": "writer, reader, octets",
    },
    "clients": {"Client": ("name", {
        "add": "command", "connect": "line", "receive": "count", "leave": "", "current": "", "whole": "number",
    })},
    "worlds": {"World": ("names, *, limit=100", {"move": "move", "settle": ""})},
}
ERRORS = ("Truncated", "InvalidText", "InvalidJson", "InvalidSchema", "InvalidData", "Unreadable", "Damaged", "InvalidContainer",
          "PowerLost", "InvalidHttp", "LineCut")
NULL = Schema(("null",), {})


def some_objects():
    """Returns an object of each class, with the attributes that the interface lists for it."""
    session = Session(Service(Keeper(Disk())))
    return [
        (NULL, "root names"), (Plan([]), "steps"), (Disk(), ""), (Journal(Disk()), ""), (Registry(), ""), (Keeper(Disk()), ""),
        (ContainerWriter(NULL, [0] * 16), ""), (Request("GET", "/", (), []), "method target headers body"),
        (Answer(200, (), []), "status headers body"), (Reader("answer"), ""), (Service(Keeper(Disk())), ""), (session, "over"),
        (Line(session), "session to_session to_client is_cut"), (Client("ann"), "name answers line"),
        (World(["ann"]), "disk keeper clients lines history"),
    ] + [(getattr(errors, name)(3), "place name") for name in ("FormkeeperError",) + ERRORS]


class InterfaceTest(unittest.TestCase):

    def modules(self):
        for name, members in INTERFACE.items():
            yield name, importlib.import_module("formkeeper." + name), members

    def test_functions_and_classes_stand_in_their_files(self):
        for name, _, members in self.modules():
            tree = ast.parse((ROOT / "formkeeper" / f"{name}.py").read_text(encoding="utf-8"))
            defined = {node.name: node.__class__ for node in tree.body if isinstance(node, (ast.FunctionDef, ast.ClassDef))}
            for member, told in members.items():
                self.assertIs(ast.FunctionDef if isinstance(told, str) else ast.ClassDef, defined.get(member), (name, member))

    def assert_arguments(self, expected, function, is_method):
        parameters = list(inspect.signature(function).parameters.values())[1 if is_method else 0:]
        found = str(inspect.Signature(parameters))[1:-1]
        self.assertEqual(expected, found, function)

    def test_arguments(self):
        for _, module, members in self.modules():
            for member, told in members.items():
                if isinstance(told, str):
                    self.assert_arguments(told, getattr(module, member), False)
                else:
                    made = getattr(module, member)
                    self.assert_arguments(told[0], made, False)
                    for method, arguments in told[1].items():
                        self.assertIn(method, vars(made), member)
                        self.assert_arguments(arguments, vars(made)[method], True)

    def test_attributes_are_set_when_an_object_is_created(self):
        for each, attributes in some_objects():
            for name in attributes.split():
                self.assertIn(name, vars(each), each)

    def test_errors_are_derived_from_the_base_class_alone(self):
        self.assertEqual((ValueError,), errors.FormkeeperError.__bases__)
        for name in ERRORS:
            made = getattr(errors, name)
            self.assertEqual((errors.FormkeeperError,), made.__bases__)
            self.assertEqual((7, name), (made(7).place, made(7).name))
        self.assertEqual((7, "FormkeeperError"), (errors.FormkeeperError(7).place, errors.FormkeeperError(7).name))
        found = [each for each in vars(errors).values() if isinstance(each, type)]
        self.assertEqual(len(ERRORS) + 1, len(found))
        for path in (ROOT / "formkeeper").glob("*.py"):
            module = importlib.import_module("formkeeper." + path.stem)
            for made in vars(module).values():
                if isinstance(made, type) and issubclass(made, Exception):
                    self.assertIn(made, found)

    def test_objects_are_equal_to_no_value_of_another_class(self):
        objects = [each for each, _ in some_objects()]
        values = [None, True, 0, 200, "null", [], (), {}, ("null",), ["null"], ("GET", "/", (), []), (200, (), []), (("null",), {})]
        for at, one in enumerate(objects):
            for other in objects[:at] + objects[at + 1:] + values:
                self.assertFalse(one == other, (one, other))
                self.assertTrue(one != other, (one, other))
                self.assertFalse(other == one, (one, other))

    def test_the_examples_of_the_readme(self):
        text = re.sub("(?m)^```$", "", (ROOT / "README.md").read_text(encoding="utf-8"))
        test = doctest.DocTestParser().get_doctest(text, {}, "README.md", "README.md", 0)
        self.assertGreater(len(test.examples), 30)
        told = []
        # The runner leaves what an example gave under this name.
        self.addCleanup(vars(builtins).pop, "_", None)
        doctest.DocTestRunner(verbose=False).run(test, out=told.append)
        self.assertEqual("", "".join(told))

    def test_no_clock_no_random_numbers_no_files_and_no_sockets(self):
        """Point 00.1: only modules of the package are imported, and none of Python's own functions that reach outside."""
        for path in (ROOT / "formkeeper").glob("*.py"):
            for node in ast.walk(ast.parse(path.read_text(encoding="utf-8"))):
                self.assertNotIsInstance(node, ast.Import, path.name)
                if isinstance(node, ast.ImportFrom):
                    self.assertTrue(node.module.startswith("formkeeper."), path.name)
                if isinstance(node, ast.Name):
                    self.assertNotIn(node.id, ("open", "input", "print", "exec", "eval", "hash", "id"), path.name)


if __name__ == "__main__":
    unittest.main()
