"""Chapter "The registry": points 14.1 to 14.13."""

import random
import unittest

from formkeeper.canonical import canonical_text
from formkeeper.jsontext import parse_json
from formkeeper.registry import Registry
from formkeeper.schemas import Schema, parse_schema
from tests.registry_reference import ReferenceRegistry
from tests.some_commands import CommandMaker, many_questions
from tests.support import ProgramTest, strictly

INT, LONG, STRING, BOOLEAN, BYTES = '"int"', '"long"', '"string"', '"boolean"', '"bytes"'
F = '{"kind":"fixed","name":"F","size":1}'
F2 = '{"kind":"fixed","name":"F","size":2}'
G = '{"kind":"fixed","name":"a.G","size":3}'
R = '{"kind":"record","name":"R","fields":[{"name":"f","kind":"F"}]}'
TOO_LONG = (128, 128, 128, 128, 16)
MODES = ("none", "back", "forth", "both", "back all", "forth all", "both all")


def refused(*facts):
    return ("refused",) + facts


class RegistryTest(ProgramTest):

    def setUp(self):
        self.registry = Registry()
        self.requests = 0

    def asked(self, *command):
        return self.called(self.registry.ask, command)

    def changed(self, *command):
        """Asks for a change, with a new number."""
        self.requests += 1
        answer = self.called(self.registry.change, "tester", self.requests, command)
        self.assert_gives((self.requests, answer), self.registry.remembered, "tester")
        return answer

    def registered(self, subject, text, *references):
        return self.changed("register", subject, text, references)

    def assert_asked(self, expected, *command):
        self.assertEqual(strictly(expected), strictly(self.asked(*command)))

    def assert_changed(self, expected, *command):
        self.assertEqual(strictly(expected), strictly(self.changed(*command)))

    def assert_registered(self, number, version, subject, text, *references):
        self.assertEqual(strictly(("done", number, version)), strictly(self.registered(subject, text, *references)))

    def told(self):
        """Returns what the registry tells without schemas in the question."""
        return [self.registry.ask(question) for question in many_questions([])]

    def assert_refused(self, expected, *command):
        """The change is refused, and nothing is changed."""
        before = self.told()
        self.assert_changed(("refused",) + expected, *command)
        self.assertEqual(before, self.told())


class AskingTest(RegistryTest):
    """Point 14.9."""

    def test_examples_of_the_document(self):
        r = self.registry
        self.assertEqual(("done", 1, 1), r.change("ann", 1, ("register", "log", '"int"', ())))
        self.assertEqual(("refused", "not fitting", 1, "back", (0,)),
                         r.change("ann", 2, ("register", "log", '"boolean"', ())))
        self.assertEqual((("refused", "old"), ("done", (1,))),
                         (r.change("ann", 1, ("remove subject", "log", False)), r.ask(("versions", "log"))))

    def test_a_new_registry(self):
        self.assert_asked(("done", ()), "subjects")
        self.assert_asked(("done", "back"), "mode", None)
        self.assert_asked(("done", "back"), "mode", "log")
        self.assert_asked(refused("no subject"), "versions", "log")
        self.assert_asked(refused("no schema"), "schema", 1)
        self.assert_gives(None, self.registry.remembered, "ann")
        self.assert_gives(None, self.registry.schema, 1)

    def test_subjects(self):
        for subject in ("b", "a", "Zeta", "a b", "\t", "~" * 60):
            self.registered(subject, INT)
        self.assert_asked(("done", ("\t", "Zeta", "a", "a b", "b", "~" * 60)), "subjects")
        self.changed("remove subject", "b", False)
        self.changed("set mode", "other", "none")
        self.assert_asked(("done", ("\t", "Zeta", "a", "a b", "~" * 60)), "subjects")

    def test_versions(self):
        self.changed("set mode", None, "none")
        for text in (INT, LONG, STRING):
            self.registered("log", text)
        self.assert_asked(("done", (1, 2, 3)), "versions", "log")
        self.changed("remove version", "log", 2, False)
        self.assert_asked(("done", (1, 3)), "versions", "log")
        self.registered("log", BOOLEAN)
        self.assert_asked(("done", (1, 3, 4)), "versions", "log")
        self.assert_asked(refused("no subject"), "versions", "Log")

    def test_version(self):
        self.changed("set mode", None, "none")
        self.registered("f", F)
        self.registered("log", '  "int"')
        self.registered("log", '["F"]', ("F", "f", 1))
        self.assert_asked(("done", "log", 1, 2, '  "int"', ()), "version", "log", 1)
        for version in (2, "latest"):
            self.assert_asked(("done", "log", 2, 3, '["F"]', (("F", "f", 1),)), "version", "log", version)
        for version in (3, 999999999):
            self.assert_asked(refused("no version"), "version", "log", version)
        self.assert_asked(refused("no subject"), "version", "none", 1)
        self.assert_asked(refused("no subject"), "version", "none", "latest")
        self.changed("remove version", "log", "latest", False)
        self.assert_asked(refused("no version"), "version", "log", 2)
        self.assert_asked(("done", "log", 1, 2, '  "int"', ()), "version", "log", "latest")
        self.changed("remove version", "log", 1, False)
        for version in (1, "latest"):
            self.assert_asked(refused("no subject"), "version", "log", version)

    def test_schema(self):
        self.registered("f", F)
        self.registered("log", '[ "F" ]', ("F", "f", 1))
        self.assert_asked(("done", F, (), F), "schema", 1)
        self.assert_asked(("done", '[ "F" ]', (("F", "f", 1),), "[" + F + "]"), "schema", 2)
        for number in (3, 999999999):
            self.assert_asked(refused("no schema"), "schema", number)
        for subject in ("log", "f"):
            self.changed("remove subject", subject, False)
            self.changed("remove subject", subject, True)
        self.assert_asked(("done", F, (), F), "schema", 1)
        self.assert_asked(("done", '[ "F" ]', (("F", "f", 1),), "[" + F + "]"), "schema", 2)

    def test_lookup(self):
        self.changed("set mode", None, "none")
        self.registered("other", STRING)
        self.registered("log", INT)
        self.registered("log", LONG)
        self.assert_asked(("done", 2, 1), "lookup", "log", INT, ())
        self.assert_asked(("done", 3, 2), "lookup", "log", '{"kind": "long"}', ())
        self.assert_asked(refused("no schema"), "lookup", "log", STRING, ())
        self.assert_asked(refused("no schema"), "lookup", "log", BOOLEAN, ())
        self.assert_asked(refused("no subject"), "lookup", "none", INT, ())
        self.assert_asked(refused("bad schema", 0), "lookup", "log", "int", ())
        self.assert_asked(refused("bad reference", 0), "lookup", "log", "int", (("F", "log", 1),))
        self.changed("remove version", "log", 1, False)
        self.assert_asked(refused("no schema"), "lookup", "log", INT, ())
        self.registered("log", INT)
        self.assert_asked(("done", 2, 3), "lookup", "log", INT, ())

    def test_lookup_by_references(self):
        self.changed("set mode", None, "none")
        self.registered("f", F)
        self.registered("log", '["null",' + F + ']')
        self.assert_asked(("done", 2, 1), "lookup", "log", '["null", "F"]', (("F", "f", 1),))

    def test_mode(self):
        self.assert_changed(("done", "none"), "set mode", "log", "none")
        self.assert_asked(("done", "none"), "mode", "log")
        self.assert_asked(("done", "back"), "mode", "other")
        self.assert_changed(("done", "both all"), "set mode", None, "both all")
        self.assert_asked(("done", "none"), "mode", "log")
        self.assert_asked(("done", "both all"), "mode", "other")
        self.assert_asked(("done", "both all"), "mode", None)

    def test_asking_changes_nothing(self):
        chosen = random.Random(80)
        for _ in range(40):
            one, two = Registry(), Registry()
            maker = CommandMaker(chosen, one)
            for _ in range(20):
                client, request, command = maker.change()
                for _ in range(3):
                    two.ask(maker.asking())
                self.assertEqual(one.change(client, request, command), two.change(client, request, command))
            for question in many_questions():
                self.assertEqual(one.ask(question), two.ask(question))
                self.assertEqual(one.ask(question), one.ask(question))


class SchemasTest(RegistryTest):
    """Points 14.2, 14.3 and 14.6."""

    def test_numbers_are_given_in_order(self):
        self.assert_registered(1, 1, "a", INT)
        self.assert_registered(2, 1, "b", LONG)
        self.assert_registered(3, 1, "c", STRING)
        self.assert_registered(2, 2, "a", LONG)
        self.assert_registered(4, 1, "d", BOOLEAN)

    def test_schemas_that_are_equal_under_different_texts(self):
        self.assert_registered(1, 1, "a", '{"size":1,"kind":"fixed","name":"F","doc":5}')
        self.assert_registered(1, 1, "b", F)
        self.assert_registered(1, 1, "b", '{"kind": ' + F + '}')
        self.assert_registered(1, 1, "b", '"F"', ("F", "a", 1))
        self.assert_asked(("done", '{"size":1,"kind":"fixed","name":"F","doc":5}', (), F), "schema", 1)
        self.assert_asked(("done", "b", 1, 1, F, ()), "version", "b", "latest")
        self.assert_registered(2, 1, "c", '{"kind":"fixed","name":"F","size":1,"aliases":["F"]}')

    def test_the_first_text_and_references_are_kept(self):
        self.registered("f", F)
        self.assert_registered(2, 1, "a", '["F"]', ("F", "f", 1))
        self.assert_registered(2, 1, "b", "[" + F + "]")
        self.assert_asked(("done", '["F"]', (("F", "f", 1),), "[" + F + "]"), "schema", 2)
        self.assert_asked(("done", "b", 1, 2, "[" + F + "]", ()), "version", "b", 1)

    def test_a_refused_schema_has_no_number(self):
        self.registered("a", INT)
        self.assertEqual("refused", self.registered("a", STRING)[0])
        self.assert_asked(refused("no schema"), "schema", 2)
        self.assert_registered(2, 1, "b", BOOLEAN)

    def test_numbers_of_versions_are_not_used_again(self):
        self.changed("set mode", None, "none")
        for version in (1, 2, 3):
            self.assert_registered(version, version, "a", (INT, LONG, STRING)[version - 1])
        self.changed("remove version", "a", 3, False)
        self.assert_registered(3, 4, "a", STRING)
        self.changed("remove version", "a", 4, False)
        self.changed("remove version", "a", 4, True)
        self.assert_registered(3, 5, "a", STRING)
        self.changed("remove subject", "a", False)
        self.changed("remove subject", "a", True)
        self.assert_asked(refused("no subject"), "versions", "a")
        self.assert_registered(1, 6, "a", INT)
        self.assert_asked(("done", (6,)), "versions", "a")

    def test_a_version_that_stands_and_is_equal_is_told(self):
        self.changed("set mode", None, "none")
        self.assert_registered(1, 1, "a", INT)
        self.assert_registered(2, 2, "a", LONG)
        self.changed("set mode", None, "both all")
        self.assert_registered(1, 1, "a", INT)
        self.assert_asked(("done", (1, 2)), "versions", "a")
        self.changed("remove version", "a", 1, False)
        self.changed("set mode", None, "none")
        self.assert_registered(1, 3, "a", INT)
        self.assert_asked(("done", (2, 3)), "versions", "a")

    def test_texts_that_are_no_schemas(self):
        for text, place in (("", 0), ("int", 0), ("[1,", 3), ('"int" x', 6), ('"nothing"', 0), ("[]", 0), ("{}", 0),
                            ('{"kind":"int",}', 14), ('["int","int"]', 0), ("[" * 33, 32), ('"F"', 0)):
            expected = refused("bad schema", place)
            self.assertEqual(expected, self.registered("log", text))
            self.assert_asked(expected, "fits", "log", "all", text, ())
        self.assert_asked(("done", ()), "subjects")
        self.registered("log", INT)
        for text, place in (("", 0), ("[1,", 3)):
            self.assert_refused(("bad schema", place), "register", "log", text, ())
            for version in (1, "latest", "all"):
                self.assert_asked(refused("bad schema", place), "fits", "log", version, text, ())

    def test_schema_of_a_number(self):
        self.registered("f", F)
        self.registered("r", '{"kind":"record","name":"R","fields":[{"name":"f","kind":["F","null"],"default":[7]}]}',
                        ("F", "f", 1))
        for number in (1, 2):
            schema = self.registry.schema(number)
            self.assertIs(Schema, schema.__class__)
            self.assertEqual(self.asked("schema", number)[3], canonical_text(schema))
            self.assertEqual(parse_schema(parse_json(self.asked("schema", number)[3])), schema)
        self.assert_gives(None, self.registry.schema, 3)

    def test_a_schema_that_was_returned_may_be_changed(self):
        self.registered("r", '{"kind":"record","name":"R","fields":[{"name":"f","kind":"bytes","default":[7]}]}')
        before = canonical_text(self.registry.schema(1))
        schema = self.registry.schema(1)
        schema.names["R"][2][0][2][0].append(8)
        schema.names.clear()
        schema.root = ("null",)
        self.assertEqual(before, canonical_text(self.registry.schema(1)))
        self.assert_registered(1, 1, "r", before)
        self.assert_registered(1, 1, "other", '{"kind": ' + before + '}')


class ReferencesTest(RegistryTest):
    """Point 14.5."""

    def setUp(self):
        super().setUp()
        self.changed("set mode", None, "none")
        self.registered("f", F)
        self.registered("f", F2)
        self.registered("g", G)
        self.registered("r", R, ("F", "f", 1))
        self.registered("plain", INT)

    def assert_bad(self, index, *references):
        expected = refused("bad reference", index)
        for text in ('"F"', "no json", '"int"'):
            self.assert_refused(expected[1:], "register", "new", text, references)
            self.assert_asked(expected, "lookup", "f", text, references)
            self.assert_asked(expected, "fits", "f", 1, text, references)
            self.assert_asked(expected, "fits", "new", "all", text, references)

    def test_good_references(self):
        self.assert_registered(6, 1, "new", '["F","a.G"]', ("F", "f", 1), ("a.G", "g", 1))
        self.assert_asked(("done", '["F","a.G"]', (("F", "f", 1), ("a.G", "g", 1)), "[" + F + "," + G + "]"), "schema", 6)

    def test_the_definitions_that_a_version_refers_to_are_known(self):
        whole = '{"kind":"record","name":"R","fields":[{"name":"f","kind":' + F + '}]}'
        self.assert_registered(6, 1, "new", '["R","F"]', ("R", "r", 1))
        self.assert_asked(("done", '["R","F"]', (("R", "r", 1),), "[" + whole + ',"F"]'), "schema", 6)
        self.assert_registered(7, 2, "new", '["F","R"]', ("R", "r", 1), ("F", "f", 1))

    def test_what_is_known_is_not_defined_again(self):
        self.assertEqual(refused("bad schema", 0), self.registered("new", F, ("F", "f", 1)))
        self.assertEqual(refused("bad schema", 0), self.registered("new", F, ("R", "r", 1)))
        self.assert_registered(1, 1, "new", F, ("a.G", "g", 1))

    def test_references_that_are_not_used(self):
        self.assert_registered(5, 1, "new", INT, ("F", "f", 1), ("R", "r", 1))
        self.assert_asked(("done", "new", 1, 5, INT, (("F", "f", 1), ("R", "r", 1))), "version", "new", 1)

    def test_versions_that_are_not_there(self):
        for subject, version in (("f", 3), ("f", 999999999999999), ("none", 1), ("F", 1)):
            self.assert_bad(0, ("F", subject, version))
            self.assert_bad(2, ("F", "f", 1), ("a.G", "g", 1), ("F", subject, version))

    def test_roots_that_are_no_type_of_this_name(self):
        self.registered("union", "[" + F + "]")
        self.assert_bad(0, ("G", "f", 1))
        self.assert_bad(0, ("G", "g", 1))
        self.assert_bad(0, ("int", "plain", 1))
        self.assert_bad(0, ("F", "union", 1))
        self.assert_bad(0, ("F", "r", 1))
        self.assert_bad(1, ("R", "r", 1), ("", "r", 1))

    def test_versions_that_are_hidden_or_gone(self):
        self.registered("h", F)
        self.assert_registered(6, 1, "new", '["F"]', ("F", "h", 1))
        self.assert_registered(5, 2, "new", INT)
        self.changed("remove version", "new", 1, False)
        self.changed("remove version", "new", 1, True)
        self.assert_changed(("done", 1), "remove version", "h", 1, False)
        self.assert_bad(0, ("F", "h", 1))
        self.changed("remove version", "h", 1, True)
        self.assert_bad(0, ("F", "h", 1))
        self.registered("h", F)
        self.assert_bad(0, ("F", "h", 1))
        self.assert_registered(6, 3, "new", '["F"]', ("F", "h", 2))

    def test_schemas_that_define_a_name_otherwise(self):
        self.assert_bad(1, ("F", "f", 1), ("F", "f", 2))
        self.assert_bad(1, ("F", "f", 2), ("R", "r", 1))
        self.assert_bad(2, ("R", "r", 1), ("F", "f", 1), ("F", "f", 2))
        self.assert_bad(1, ("R", "r", 1), ("F", "f", 2), ("F", "f", 9))
        self.assert_bad(0, ("F", "f", 9), ("F", "f", 1), ("F", "f", 2))
        self.assert_registered(6, 1, "new", '["F"]', ("F", "f", 1), ("F", "f", 1), ("R", "r", 1))
        self.registered("f", '{"kind":"fixed","name":"F","size":1,"aliases":["a"]}')
        self.assert_bad(1, ("F", "f", 1), ("F", "f", 3))

    def test_forty_references(self):
        self.assert_registered(5, 1, "new", INT, *[("F", "f", 1)] * 40)
        self.assert_bad(39, *[("F", "f", 1)] * 39 + [("F", "f", 2)])


class FittingTest(RegistryTest):
    """Points 14.4, 14.7 and 14.8."""

    def test_the_directions(self):
        """From int to long everything is read, from long to int not."""
        for mode, upwards, downwards in (
            ("none", None, None),
            ("back", None, ("back", TOO_LONG)),
            ("forth", ("forth", TOO_LONG), None),
            ("both", ("forth", TOO_LONG), ("back", TOO_LONG)),
        ):
            for suffix in ("", " all"):
                if mode + suffix in MODES:
                    for old, new, expected in ((INT, LONG, upwards), (LONG, INT, downwards)):
                        self.setUp()
                        self.changed("set mode", None, mode + suffix)
                        self.registered("log", old)
                        answer = refused("not fitting", 1, *expected) if expected else ("done",)
                        for version in (1, "latest", "all"):
                            self.assert_asked(answer, "fits", "log", version, new, ())
                        if expected:
                            self.assert_refused(answer[1:], "register", "log", new, ())
                        else:
                            self.assert_registered(2, 2, "log", new)

    def test_back_is_looked_at_first(self):
        for mode in ("both", "both all"):
            self.setUp()
            self.changed("set mode", None, mode)
            self.registered("log", STRING)
            self.assert_refused(("not fitting", 1, "back", (0,)), "register", "log", INT, ())
            self.assert_refused(("not fitting", 1, "forth", (2, 0)), "register", "log", BYTES, ())

    def test_the_octets_of_a_refusal(self):
        self.registered("log", '{"kind":"array","items":{"kind":"choice","name":"E","symbols":["A","B"]}}')
        self.assert_refused(("not fitting", 1, "back", (2, 2, 0)), "register", "log",
                            '{"kind":"array","items":{"kind":"choice","name":"E","symbols":["A"]}}', ())
        self.registered("empty", '"null"')
        self.assert_refused(("not fitting", 1, "back", ()), "register", "empty", INT, ())

    def test_the_last_version_or_all_of_them(self):
        for mode, expected in (
            ("none", None), ("back", None), ("forth", None), ("both", None), ("back all", ("back", (0,))),
            ("forth all", ("forth", (0, 0))), ("both all", ("back", (0,))),
        ):
            self.setUp()
            self.changed("set mode", None, "none")
            for text in (INT, STRING, LONG):
                self.registered("log", text)
            self.changed("set mode", None, mode)
            if expected is None:
                self.assert_registered(4, 4, "log", '["long"]')
            else:
                self.assert_refused(("not fitting", 2) + expected, "register", "log", '["long"]', ())

    def test_versions_are_compared_in_descending_order(self):
        self.changed("set mode", None, "none")
        for text in (STRING, BYTES, BOOLEAN, LONG):
            self.registered("log", text)
        self.changed("set mode", None, "back all")
        for version in (3, 2, 1):
            expected = ("not fitting", version, "back", (0,))
            self.assert_refused(expected, "register", "log", '["long"]', ())
            self.assert_asked(refused(*expected), "fits", "log", "all", '["long"]', ())
            self.changed("remove version", "log", version, False)
        self.assert_asked(("done",), "fits", "log", "all", '["long"]', ())
        self.assert_registered(5, 5, "log", '["long"]')

    def test_each_version_in_all_directions(self):
        """Of the last version, forth is looked at ahead of back of the one before it."""
        self.changed("set mode", None, "none")
        self.registered("log", STRING)
        self.registered("log", INT)
        self.changed("set mode", None, "both all")
        self.assert_refused(("not fitting", 2, "forth", TOO_LONG), "register", "log", LONG, ())
        self.assert_asked(refused("not fitting", 1, "back", (0,)), "fits", "log", 1, LONG, ())

    def test_only_versions_that_stand_count(self):
        self.registered("log", INT)
        self.changed("remove version", "log", 1, False)
        self.assert_registered(2, 2, "log", STRING)
        self.changed("remove subject", "log", False)
        self.changed("set mode", "log", "both all")
        self.assert_asked(("done",), "fits", "log", "all", BOOLEAN, ())
        self.assert_registered(3, 3, "log", BOOLEAN)

    def test_the_mode_in_force(self):
        self.registered("log", INT)
        self.changed("set mode", "log", "none")
        self.assert_registered(2, 2, "log", STRING)
        self.registered("other", INT)
        self.assert_refused(("not fitting", 1, "back", (0,)), "register", "other", STRING, ())
        self.changed("set mode", None, "none")
        self.changed("set mode", "log", "back")
        self.assert_registered(1, 1, "log", INT)
        self.assert_refused(("not fitting", 2, "back", (0,)), "register", "log", BOOLEAN, ())
        self.assert_registered(2, 2, "other", STRING)

    def test_a_subject_keeps_its_mode_for_ever(self):
        self.changed("set mode", "log", "none")
        self.registered("log", INT)
        for forever in (False, True):
            self.changed("remove subject", "log", forever)
            self.assert_asked(("done", "none"), "mode", "log")
        self.registered("log", INT)
        self.assert_asked(("done", "none"), "mode", "log")
        self.assert_registered(2, 3, "log", STRING)

    def test_fits(self):
        self.changed("set mode", None, "none")
        for text in (STRING, LONG, INT):
            self.registered("log", text)
        for mode in ("back", "back all"):
            self.changed("set mode", None, mode)
            for version, expected in (
                (1, refused("not fitting", 1, "back", (0,))), (2, ("done",)), (3, ("done",)), ("latest", ("done",)),
                ("all", refused("not fitting", 1, "back", (0,))),
            ):
                self.assert_asked(expected, "fits", "log", version, '["long"]', ())
        for mode in ("forth", "forth all"):
            self.changed("set mode", None, mode)
            for version, expected in (
                (1, refused("not fitting", 1, "forth", (0, 0))), (2, ("done",)),
                (3, refused("not fitting", 3, "forth", (0,) + TOO_LONG)),
                ("all", refused("not fitting", 3, "forth", (0,) + TOO_LONG)),
            ):
                self.assert_asked(expected, "fits", "log", version, '["long"]', ())
        self.changed("set mode", None, "none")
        for version in (1, 2, 3, "latest", "all"):
            self.assert_asked(("done",), "fits", "log", version, BOOLEAN, ())
        self.assert_asked(refused("no version"), "fits", "log", 4, BOOLEAN, ())
        self.assert_asked(refused("no subject"), "fits", "none", 4, BOOLEAN, ())
        self.assert_asked(refused("no subject"), "fits", "none", "latest", BOOLEAN, ())
        self.assert_asked(("done",), "fits", "none", "all", BOOLEAN, ())

    def test_fits_looks_at_equal_schemas_too(self):
        self.registered("log", INT)
        self.assert_asked(("done",), "fits", "log", "latest", INT, ())

    def test_modes(self):
        for mode in MODES:
            for subject in (None, "log"):
                self.assert_changed(("done", mode), "set mode", subject, mode)
                self.assert_asked(("done", mode), "mode", subject)
        for mode in ("", "Back", "none all", "all", "back  all", "back all ", "both-all", "BOTH", "default", "forward"):
            for subject in (None, "log", "other"):
                self.assert_refused(("bad mode",), "set mode", subject, mode)


class RemovingTest(RegistryTest):
    """Points 14.10 and 14.11."""

    def setUp(self):
        super().setUp()
        self.changed("set mode", None, "none")

    def fill(self):
        for text in (INT, LONG, STRING, BOOLEAN):
            self.registered("log", text)

    def test_hiding_versions(self):
        self.fill()
        self.assert_changed(("done", 2), "remove version", "log", 2, False)
        self.assert_changed(("done", 4), "remove version", "log", "latest", False)
        self.assert_asked(("done", (1, 3)), "versions", "log")
        for version in (2, 4, 5):
            self.assert_refused(("no version",), "remove version", "log", version, False)
        self.assert_refused(("no subject",), "remove version", "other", 1, False)
        self.changed("remove version", "log", 1, False)
        self.changed("remove version", "log", 3, False)
        for version in (1, "latest", 5):
            self.assert_refused(("no subject",), "remove version", "log", version, False)

    def test_removing_versions_for_ever(self):
        self.fill()
        self.assert_refused(("standing", 2), "remove version", "log", 2, True)
        self.assert_refused(("no version",), "remove version", "log", 5, True)
        self.changed("remove version", "log", 2, False)
        self.assert_changed(("done", 2), "remove version", "log", 2, True)
        self.assert_refused(("no version",), "remove version", "log", 2, True)
        self.assert_refused(("no version",), "remove version", "log", 2, False)
        self.assert_refused(("no subject",), "remove version", "other", 1, True)
        self.changed("remove subject", "log", False)
        for version in (3, 1, 4):
            self.assert_changed(("done", version), "remove version", "log", version, True)
        for version in (1, 2, 5):
            self.assert_refused(("no subject",), "remove version", "log", version, True)
        self.assert_refused(("no subject",), "remove subject", "log", True)

    def test_hiding_subjects(self):
        self.fill()
        self.changed("remove version", "log", 2, False)
        self.assert_changed(("done", (1, 3, 4)), "remove subject", "log", False)
        self.assert_asked(refused("no subject"), "versions", "log")
        self.assert_refused(("no subject",), "remove subject", "log", False)
        self.assert_refused(("no subject",), "remove subject", "other", False)

    def test_removing_subjects_for_ever(self):
        self.fill()
        self.assert_refused(("standing", 1), "remove subject", "log", True)
        self.changed("remove version", "log", 1, False)
        self.changed("remove version", "log", 3, False)
        self.changed("remove version", "log", 3, True)
        self.assert_refused(("standing", 2), "remove subject", "log", True)
        self.changed("remove subject", "log", False)
        self.assert_changed(("done", (1, 2, 4)), "remove subject", "log", True)
        self.assert_refused(("no subject",), "remove subject", "log", True)
        self.assert_refused(("no subject",), "remove subject", "other", True)

    def test_a_subject_with_a_mode_alone(self):
        self.changed("set mode", "log", "back")
        for forever in (False, True):
            self.assert_refused(("no subject",), "remove subject", "log", forever)
            self.assert_refused(("no subject",), "remove version", "log", 1, forever)
        for command in (("versions", "log"), ("version", "log", "latest"), ("lookup", "log", INT, ())):
            self.assert_asked(refused("no subject"), *command)

    def test_versions_that_are_in_use(self):
        self.registered("f", F)
        self.registered("f", F2)
        self.registered("user", '["F"]', ("F", "f", 1))
        self.assert_refused(("in use", "user", 1), "remove version", "f", 1, False)
        self.assert_refused(("in use", "user", 1), "remove subject", "f", False)
        self.assert_changed(("done", 2), "remove version", "f", "latest", False)
        self.assert_refused(("in use", "user", 1), "remove version", "f", "latest", False)

    def test_a_hidden_version_counts_and_one_that_is_gone_does_not(self):
        self.registered("f", F)
        self.registered("user", '["F"]', ("F", "f", 1))
        self.changed("remove subject", "user", False)
        self.assert_refused(("in use", "user", 1), "remove version", "f", 1, False)
        self.assert_refused(("in use", "user", 1), "remove subject", "f", False)
        self.changed("remove subject", "user", True)
        self.assert_changed(("done", 1), "remove version", "f", 1, False)

    def test_only_its_own_references_count(self):
        self.registered("f", F)
        self.registered("r", R, ("F", "f", 1))
        self.registered("x", '["R"]', ("R", "r", 1))
        self.assert_refused(("in use", "x", 1), "remove version", "r", 1, False)
        self.assert_refused(("in use", "r", 1), "remove version", "f", 1, False)
        self.changed("remove subject", "x", False)
        self.changed("remove subject", "x", True)
        self.changed("remove subject", "r", False)
        self.changed("remove subject", "r", True)
        self.assert_changed(("done", (1,)), "remove subject", "f", False)

    def test_the_least_subject_and_version_are_named(self):
        self.registered("m", F)
        self.registered("m", F2)
        for subject in ("z", "b", "Z"):
            self.registered(subject, INT)
            self.registered(subject, '["F"]', ("F", "m", 2))
            self.registered(subject, '["null","F"]', ("F", "m", 1))
        self.assert_refused(("in use", "Z", 3), "remove version", "m", 1, False)
        self.assert_refused(("in use", "Z", 2), "remove version", "m", 2, False)
        self.assert_refused(("in use", "Z", 2), "remove subject", "m", False)
        self.changed("remove version", "Z", 2, False)
        self.assert_refused(("in use", "Z", 2), "remove subject", "m", False)
        self.changed("remove version", "Z", 2, True)
        self.assert_refused(("in use", "Z", 3), "remove subject", "m", False)
        self.assert_refused(("in use", "b", 2), "remove version", "m", 2, False)

    def test_versions_of_the_same_subject(self):
        self.registered("s", F)
        self.registered("s", '["F"]', ("F", "s", 1))
        self.assert_refused(("in use", "s", 2), "remove version", "s", 1, False)
        self.registered("t", '["null","F"]', ("F", "s", 1))
        self.assert_refused(("in use", "s", 2), "remove version", "s", 1, False)
        self.assert_refused(("in use", "t", 1), "remove subject", "s", False)
        self.changed("remove subject", "t", False)
        self.changed("remove subject", "t", True)
        self.assert_changed(("done", (1, 2)), "remove subject", "s", False)
        self.assert_changed(("done", 1), "remove version", "s", 1, True)
        self.assert_changed(("done", (2,)), "remove subject", "s", True)

    def test_a_hidden_version_of_the_subject_does_not_keep_it(self):
        self.registered("s", F)
        self.registered("s", '["F"]', ("F", "s", 1))
        self.changed("remove version", "s", 2, False)
        self.assert_refused(("in use", "s", 2), "remove version", "s", 1, False)
        self.assert_changed(("done", (1,)), "remove subject", "s", False)

    def test_a_reference_of_a_version_that_was_told_again(self):
        """Registering an equal schema makes no version, so its references count nowhere."""
        self.registered("f", F)
        self.registered("user", "[" + F + "]")
        self.assert_registered(2, 1, "user", '["F"]', ("F", "f", 1))
        self.assert_changed(("done", 1), "remove version", "f", 1, False)


class OrderOfRefusalsTest(RegistryTest):
    """Point 14.11: which refusal is told where several apply."""

    def test_no_subject_ahead_of_all_others(self):
        bad = (("F", "none", 1),)
        for command in (("lookup", "none", "no json", bad), ("fits", "none", 1, "no json", bad),
                        ("fits", "none", "latest", "no json", bad)):
            self.assert_asked(refused("no subject"), *command)

    def test_no_version_ahead_of_references_and_schemas(self):
        self.registered("log", INT)
        self.assert_asked(refused("no version"), "fits", "log", 2, "no json", (("F", "none", 1),))
        self.assert_asked(refused("bad reference", 0), "fits", "log", 1, "no json", (("F", "none", 1),))
        self.assert_asked(refused("bad schema", 1), "fits", "log", 1, "no json", ())

    def test_references_ahead_of_the_schema_and_that_ahead_of_fitting_and_no_schema(self):
        self.registered("log", INT)
        for word, facts in (("lookup", ("log",)), ("fits", ("log", "all"))):
            self.assert_asked(refused("bad reference", 0), word, *facts, "no json", (("F", "none", 1),))
            self.assert_asked(refused("bad schema", 1), word, *facts, "no json", ())
        self.assert_refused(("bad reference", 0), "register", "log", STRING, (("F", "none", 1),))
        self.assert_asked(refused("bad reference", 0), "lookup", "log", STRING, (("F", "none", 1),))
        self.assert_asked(refused("no schema"), "lookup", "log", STRING, ())

    def test_an_equal_schema_with_bad_references(self):
        self.registered("log", INT)
        self.assert_refused(("bad reference", 0), "register", "log", INT, (("F", "none", 1),))

    def test_standing_ahead_of_no_version(self):
        self.changed("set mode", None, "none")
        self.registered("log", INT)
        self.registered("log", LONG)
        self.changed("remove version", "log", 1, False)
        self.assert_refused(("standing", 2), "remove version", "log", 2, True)
        self.assert_refused(("standing", 2), "remove subject", "log", True)
        self.assert_refused(("no version",), "remove version", "log", 3, True)

    def test_no_version_ahead_of_in_use(self):
        self.registered("f", F)
        self.registered("user", '["F"]', ("F", "f", 1))
        self.assert_refused(("no version",), "remove version", "f", 2, False)
        self.assert_refused(("standing", 1), "remove version", "f", 1, True)
        self.assert_refused(("standing", 1), "remove subject", "f", True)


class RequestsTest(RegistryTest):
    """Point 14.12."""

    def change(self, *facts):
        return self.called(self.registry.change, *facts)

    def test_a_request_with_the_same_number_again(self):
        first = self.change("ann", 5, ("register", "log", INT, ()))
        for command in (("register", "log", INT, ()), ("register", "log", STRING, ()), ("set mode", None, "none"),
                        ("remove subject", "log", False), ("set mode", None, "nothing")):
            self.assertEqual(first, self.change("ann", 5, command))
        self.assertEqual(("done", "back"), self.registry.ask(("mode", None)))
        self.assertEqual(("done", (1,)), self.registry.ask(("versions", "log")))
        self.assertEqual((5, first), self.registry.remembered("ann"))

    def test_a_refusal_is_remembered(self):
        answer = self.change("ann", 1, ("remove subject", "log", False))
        self.assertEqual(("refused", "no subject"), answer)
        self.change("ben", 1, ("register", "log", INT, ()))
        self.assertEqual(answer, self.change("ann", 1, ("remove subject", "log", False)))
        self.assertEqual((1, answer), self.registry.remembered("ann"))
        self.assertEqual(("done", (1,)), self.change("ann", 2, ("remove subject", "log", False)))

    def test_a_request_with_a_smaller_number(self):
        self.change("ann", 10 ** 12 - 1, ("set mode", None, "none"))
        for request in (1, 2, 10 ** 12 - 2):
            self.assertEqual(("refused", "old"), self.change("ann", request, ("set mode", None, "both")))
            self.assertEqual((10 ** 12 - 1, ("done", "none")), self.registry.remembered("ann"))
        self.assertEqual(("done", "none"), self.registry.ask(("mode", None)))
        self.assertEqual(("done", "both"), self.change("ann", 10 ** 12, ("set mode", None, "both")))
        self.assertEqual((10 ** 12, ("done", "both")), self.registry.remembered("ann"))

    def test_each_client_has_numbers_of_its_own(self):
        self.change("ann", 5, ("set mode", None, "none"))
        self.assertEqual(("done", "both"), self.change("ben", 1, ("set mode", None, "both")))
        self.assertEqual(("done", "none"), self.change("ann", 5, ("set mode", None, "forth")))
        self.assertEqual(("done", "both"), self.registry.ask(("mode", None)))
        self.assertEqual((1, ("done", "both")), self.registry.remembered("ben"))
        self.assertIsNone(self.registry.remembered("Ann"))

    def test_an_answer_stays_as_it_was(self):
        answer = self.change("ann", 1, ("register", "log", INT, ()))
        self.change("ben", 1, ("remove subject", "log", False))
        self.change("ben", 2, ("remove subject", "log", True))
        self.assertEqual(answer, self.change("ann", 1, ("register", "log", INT, ())))
        self.assertEqual(("refused", "no subject"), self.registry.ask(("versions", "log")))


class SecondReadingTest(ProgramTest):
    """All of the chapter, compared with a second reading of it."""

    def test_commands_by_chance(self):
        chosen = random.Random(81)
        counts = {}
        for _ in range(250):
            registry, reference = Registry(), ReferenceRegistry()
            maker = CommandMaker(chosen, registry)
            for _ in range(50):
                if chosen.randrange(3) == 0:
                    command = maker.asking()
                    expected = reference.ask(command)
                    found = self.called(registry.ask, command)
                else:
                    client, request, command = maker.change()
                    expected = reference.change(client, request, command)
                    found = self.called(registry.change, client, request, command)
                    self.assertEqual(reference.last[client], registry.remembered(client))
                self.assertEqual(strictly(expected), strictly(found), command)
                key = (command[0], found[0] if found[0] == "done" else found[1])
                counts[key] = counts.get(key, 0) + 1
        for reason in ("no subject", "no version", "standing", "in use", "bad reference", "bad schema", "not fitting", "old",
                       "bad mode", "no schema", "done"):
            self.assertGreater(sum(counts[key] for key in counts if key[1] == reason), 30, reason)

    def test_every_answer_depends_on_the_changes_alone(self):
        """Point 14.13."""
        chosen = random.Random(82)
        for _ in range(30):
            registry = Registry()
            maker = CommandMaker(chosen, registry)
            changes = []
            for _ in range(25):
                changes.append(maker.change())
                registry.change(*changes[-1])
            again = Registry()
            for change in changes:
                again.change(*change)
            for question in many_questions():
                self.assertEqual(registry.ask(question), again.ask(question))


if __name__ == "__main__":
    unittest.main()
