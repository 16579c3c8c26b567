"""Chapter "The octets of a registry": points 15.1 to 15.4."""

import copy
import json
import random
import unittest

from formkeeper.registry import Registry
from formkeeper.states import read_change, read_state, write_change, write_state
from tests.some_commands import CommandMaker, many_questions
from tests.support import ProgramTest, strictly

F = '{"kind":"fixed","name":"F","size":1}'


def octets_of(text):
    return [ord(character) for character in text]


class ChangesTest(ProgramTest):
    """Point 15.1."""

    COMMANDS = (
        (("register", "log", '"int"', ()), '["register","log","\\"int\\"",[]]'),
        (("register", "a b", '["F",\n\t"a.G"]', (("F", "f", 1), ("a.G", "\\", 999999999999999))),
         '["register","a b","[\\"F\\",\\n\\t\\"a.G\\"]",[["F","f",1],["a.G","\\\\",999999999999999]]]'),
        (("set mode", None, "both all"), '["set mode",null,"both all"]'),
        (("set mode", "log", "/~"), '["set mode","log","/~"]'),
        (("remove version", "log", "latest", False), '["remove version","log","latest",false]'),
        (("remove version", "log", 999999999, True), '["remove version","log",999999999,true]'),
        (("remove subject", "log", True), '["remove subject","log",true]'),
    )

    def test_examples_of_the_document(self):
        self.assertEqual(("ann", 3, ("set mode", None, "both")), read_change(write_change("ann", 3, ("set mode", None, "both"))))

    def test_the_octets_of_each_command(self):
        for command, text in self.COMMANDS:
            for client, told in (("ann", '"ann"'), ('\t"\\\n', '"\\t\\"\\\\\\n"')):
                for request in (1, 10 ** 12):
                    octets = octets_of(f"[{told},{request},{text}]")
                    self.assert_gives(octets, write_change, client, request, command)
                    self.assert_gives((client, request, command), read_change, octets)

    def test_what_is_read_may_be_asked(self):
        one, two = Registry(), Registry()
        maker = CommandMaker(random.Random(90), one)
        for _ in range(200):
            change = maker.change()
            again = read_change(self.called(write_change, *change))
            self.assertEqual(strictly(change), strictly(again))
            self.assertEqual(one.change(*change), two.change(*again))


class StatesTest(ProgramTest):
    """Points 15.2 and 15.3."""

    def test_a_new_registry(self):
        octets = octets_of('[[],[],"back",[],"formkeeper"]')
        self.assert_gives(octets, write_state, Registry())
        registry = self.called(read_state, octets)
        self.assertIs(Registry, registry.__class__)
        self.assert_gives(octets, write_state, registry)

    def filled(self):
        registry = Registry()
        for client, request, command in (
            ("zoe", 1, ("register", "f", ' {"size":1, "name":"F",\n"kind":"fixed"}', ())),
            ("ann", 7, ("set mode", "Z", "none")),
            ("ann", 8, ("register", "Z", '["F"]', (("F", "f", 1),))),
            ("ann", 9, ("register", "Z", '"int"', ())),
            ("ann", 10, ("register", "Z", '"string"', ())),
            ("ann", 11, ("register", "Z", '"int"', ())),
            ("ann", 12, ("remove version", "Z", 2, False)),
            ("ann", 13, ("remove version", "Z", 3, False)),
            ("ann", 14, ("remove version", "Z", 3, True)),
            ("ann", 15, ("register", "Z", '["null","F"]', (("F", "f", 1), ("F", "f", 1)))),
            ("b\t", 10 ** 12, ("set mode", None, "both all")),
            ("a", 3, ("set mode", "only mode", "forth")),
            ("zoe", 2, ("register", "f", '"int"', ())),
            ("gone", 1, ("register", "all gone", '"bytes"', ())),
            ("gone", 2, ("remove subject", "all gone", False)),
            ("gone", 3, ("remove subject", "all gone", True)),
            ("ask", 1, ("remove version", "never", 1, True)),
        ):
            registry.change(client, request, command)
        return registry

    def test_the_octets_character_by_character(self):
        fixed = ' {\\"size\\":1, \\"name\\":\\"F\\",\\n\\"kind\\":\\"fixed\\"}'
        whole = '{\\"kind\\":\\"fixed\\",\\"name\\":\\"F\\",\\"size\\":1}'
        schemas = ",".join([
            f'["{fixed}",[],"{whole}"]',
            f'["[\\"F\\"]",[["F","f",1]],"[{whole}]"]',
            '["\\"int\\"",[],"\\"int\\""]',
            '["\\"string\\"",[],"\\"string\\""]',
            f'["[\\"null\\",\\"F\\"]",[["F","f",1],["F","f",1]],"[\\"null\\",{whole}]"]',
            '["\\"bytes\\"",[],"\\"bytes\\""]',
        ])
        subjects = ",".join([
            '["Z","none",4,[[1,2,true,"[\\"F\\"]",[["F","f",1]]],[2,3,false,"\\"int\\"",[]],'
            '[4,5,true,"[\\"null\\",\\"F\\"]",[["F","f",1],["F","f",1]]]]]',
            '["all gone",null,1,[]]',
            f'["f",null,1,[[1,1,true,"{fixed}",[]]]]',
            '["only mode","forth",0,[]]',
        ])
        clients = ",".join([
            '["a",3,["done","forth"]]',
            '["ann",15,["done",5,4]]',
            '["ask",1,["refused","no subject"]]',
            '["b\\t",1000000000000,["done","both all"]]',
            '["gone",3,["done",[1]]]',
            '["zoe",2,["refused","not fitting",1,"back",[0]]]',
        ])
        expected = f'[[{schemas}],[{subjects}],"both all",[{clients}],"formkeeper"]'
        registry = self.filled()
        found = self.called(write_state, registry)
        self.assertEqual(expected, "".join(chr(octet) for octet in found))
        self.assertEqual(octets_of(expected), found)

    def test_subjects_of_which_nothing_was_made_do_not_appear(self):
        registry = Registry()
        registry.change("ann", 1, ("register", "log", "bad", ()))
        registry.change("ann", 2, ("set mode", "log", "bad"))
        registry.change("ann", 3, ("remove subject", "log", False))
        registry.ask(("versions", "log"))
        registry.ask(("mode", "log"))
        registry.ask(("fits", "log", "all", '"int"', ()))
        state = json.loads("".join(map(chr, write_state(registry))))
        self.assertEqual([[], [], "back", [["ann", 3, ["refused", "no subject"]]], "formkeeper"], state)

    def assert_alike(self, one, two, clients):
        """Two registries tell and remember the same."""
        for question in many_questions():
            self.assertEqual(strictly(one.ask(question)), strictly(two.ask(question)))
        for client in clients:
            self.assertEqual(strictly(one.remembered(client)), strictly(two.remembered(client)))
        for number in range(1, 30):
            self.assertEqual(strictly(one.schema(number)), strictly(two.schema(number)))
        self.assertEqual(write_state(one), write_state(two))

    def test_a_registry_that_is_read_again(self):
        registry = self.filled()
        again = self.called(read_state, write_state(registry))
        self.assert_alike(registry, again, ("a", "ann", "ask", "b\t", "gone", "zoe", "none"))
        self.assertEqual(("done", 6, 2), again.change("new", 1, ("register", "all gone", '"bytes"', ())))
        self.assertEqual(("refused", "old"), again.change("b\t", 5, ("set mode", None, "none")))
        self.assertEqual(("done", (1,)), again.change("gone", 3, ("set mode", None, "none")))
        self.assertEqual(("done", 3, 5), again.change("new", 2, ("register", "Z", '"int"', ())))
        self.assertEqual(("refused", "in use", "Z", 1), again.change("new", 3, ("remove version", "f", 1, False)))

    def test_answers_of_all_kinds_are_remembered(self):
        registry = Registry()
        for client, command in (
            ("a", ("set mode", None, "none")), ("b", ("register", "log", '"long"', ())), ("c", ("register", "log", '"int"', ())),
            ("d", ("remove subject", "log", False)), ("e", ("register", "log", '"null"', ())), ("f", ("set mode", None, "back")),
            ("g", ("register", "log", '"int"', ())), ("h", ("register", "x", "[", ())), ("i", ("remove subject", "x", True)),
            ("j", ("register", "x", '"F"', (("F", "x", 1),))), ("k", ("set mode", None, "")),
        ):
            registry.change(client, 1, command)
        again = read_state(write_state(registry))
        self.assert_alike(registry, again, "abcdefghijk")
        self.assertEqual((1, ("refused", "not fitting", 3, "back", ())), again.remembered("g"))
        self.assertEqual((1, ("done", (1, 2))), again.remembered("d"))

    def test_texts_that_need_escapes(self):
        registry = Registry()
        subject = '\\"\n\t/~ {}[]'
        registry.change(subject, 1, ("register", subject, '{"kind":\t"int",\n"doc":"\\\\ \\" \\n \\u0041"}', ()))
        again = read_state(write_state(registry))
        self.assert_alike(registry, again, [subject])
        self.assertEqual(("done", (subject,)), again.ask(("subjects",)))
        self.assertEqual(('{"kind":\t"int",\n"doc":"\\\\ \\" \\n \\u0041"}', ()), again.ask(("schema", 1))[1:3])

    def test_defaults_are_read_again(self):
        text = ('{"kind":"record","name":"R","fields":[{"name":"a","kind":{"kind":"map","values":"bytes"},'
                '"default":{"b":[1],"a":[]}},{"name":"b","kind":["boolean","int"],"default":true}]}')
        registry = Registry()
        registry.change("ann", 1, ("register", "log", text, ()))
        again = read_state(write_state(registry))
        self.assert_alike(registry, again, ["ann"])
        self.assertEqual(registry.schema(1), again.schema(1))

    def test_neither_one_changes_with_the_other(self):
        registry = self.filled()
        octets = write_state(registry)
        kept = list(octets)
        again = read_state(octets)
        octets.clear()
        registry.change("new", 1, ("remove subject", "Z", False))
        registry.change("new", 2, ("set mode", "Z", "back"))
        self.assertEqual(kept, write_state(again))
        before = write_state(registry)
        again.change("new", 1, ("register", "f", '{"kind":"fixed","name":"G","size":2}', ()))
        again.change("new", 2, ("remove version", "Z", 1, False))
        self.assertEqual(before, write_state(registry))
        self.assertNotEqual(kept, write_state(again))

    def test_registries_by_chance(self):
        chosen = random.Random(91)
        for _ in range(60):
            registry = Registry()
            maker = CommandMaker(chosen, registry)
            for _ in range(chosen.randrange(40)):
                registry.change(*maker.change())
            again = self.called(read_state, self.called(write_state, registry))
            self.assert_alike(registry, again, maker.requests)
            for _ in range(15):
                change = maker.change()
                self.assertEqual(registry.change(*change), again.change(*change))
            self.assert_alike(registry, again, maker.requests)

    def test_a_state_does_not_change_the_registry(self):
        registry = self.filled()
        before = copy.deepcopy(registry)
        write_state(registry)
        self.assertEqual(strictly(before), strictly(registry))


if __name__ == "__main__":
    unittest.main()
