"""Chapter "The service": points 19.1 to 19.7."""

import json
import random
import time
import unittest

from formkeeper.disk import Disk
from formkeeper.errors import PowerLost
from formkeeper.http import Answer, Reader, Request, write_message
from formkeeper.keeper import Keeper
from formkeeper.registry import Registry
from formkeeper.service import (
    Service, Session, answer_octets, command_of, escape, request_of, told_answer, unescape
)
from tests.some_commands import CommandMaker
from tests.some_schemas import CHARACTERS
from tests.support import ProgramTest, strictly

BAD_TARGET, BAD_CLIENT, BAD_BODY, BAD_HTTP = [("refused", "bad " + word) for word in ("target", "client", "body", "http")]
PLAIN = "ABCDEFGHIJKLMNOPQRSTUVWXYZabcdefghijklmnopqrstuvwxyz0123456789-_."
WHO = (("client", "ann"), ("request", "7"))
MODE_BODY = '{"mode":"none"}'
SCHEMA_BODY = '{"schema":"\\"int\\""}'


def raw(text):
    return [ord(character) for character in text]


def text_of(octets):
    return "".join(chr(octet) for octet in octets)


class EscapingTest(ProgramTest):
    """Point 19.1."""

    def test_examples_of_the_document(self):
        self.assertEqual("a~20b~2fc", escape("a b/c"))
        self.assertEqual("/subjects/log/versions/3", request_of(("version", "log", 3)).target)
        self.assertEqual((("client", "ann"), ("request", "7")), request_of(("remove subject", "log", True), "ann", 7).headers)

    def test_every_character(self):
        self.assertEqual(96, len(set(CHARACTERS)))
        for character in CHARACTERS:
            escaped = character if character in PLAIN else "~" + format(ord(character), "02x")
            self.assert_gives(escaped, escape, character)
            self.assert_gives(character, unescape, escaped)
        self.assert_gives("".join(map(escape, CHARACTERS)), escape, CHARACTERS)
        self.assert_gives(CHARACTERS, unescape, escape(CHARACTERS))
        for text, escaped in (("", ""), ("~", "~7e"), ("\t\n", "~09~0a"), ("~41", "~7e41"), ("a~b", "a~7eb"), (".-_", ".-_")):
            self.assert_gives(escaped, escape, text)
            self.assert_gives(text, unescape, escaped)

    def test_what_no_text_is_escaped_as(self):
        for text in (
            "~", "a~", "~2", "~2 ", "~ 20", "~g0", "~0g", "~2F", "~2f~2F", "~7E", "~0A", "~41", "~61", "~30", "~2d", "~5f", "~2e", "~25",
            "~0d", "~00", "~7f", "~80", "~ff", "~~", "~~20", "~7~7e", " ", "a b", "/", "a/b", "?", "a?forever", "a\n", "\t", "\"",
            "+", "~+1", "~-1", "~1_", "a:b", "~20 ", "$", "(", "~2",
        ):
            self.assert_gives(None, unescape, text)

    def test_all_short_texts(self):
        """Just those that a text is escaped as are read."""
        escaped = {escape(one): one for one in CHARACTERS}
        self.assertEqual(96, len(escaped))
        for one in CHARACTERS:
            self.assert_gives(escaped.get(one), unescape, one)
        for one in CHARACTERS:
            for two in CHARACTERS:
                text = "~" + one + two
                self.assertEqual(escaped.get(text), unescape(text))

    def test_different_texts_are_escaped_differently(self):
        chosen = random.Random(190)
        for _ in range(3000):
            text = "".join(chosen.choice(CHARACTERS + "~~~~0123ef") for _ in range(chosen.randrange(8)))
            self.assertEqual(text, unescape(escape(text)))
            found = unescape(text)
            self.assertTrue(found is None or escape(found) == text)

    def test_long_texts(self):
        began = time.process_time()
        text = CHARACTERS * 2000
        self.assertEqual(text, unescape(escape(text)))
        self.assertIsNone(unescape("~" * 200000))
        self.assertLess(time.process_time() - began, 20)


class ServiceTest(ProgramTest):

    def assert_command(self, expected, method, target, headers=(), body=""):
        body = raw(body) if isinstance(body, str) else body
        self.assert_gives(expected, command_of, Request(method, target, headers, body))


class TargetsTest(ServiceTest):
    """Point 19.2."""

    def both_ways(self, command, method, target, body="", who=None):
        """The request for the command has this method, target and body, and stands for it."""
        headers = () if who is None else (("client", escape(who[0])), ("request", str(who[1])))
        request = Request(method, target, headers, raw(body))
        arguments = (command,) if who is None else (command,) + who
        self.assert_gives(request, request_of, *arguments)
        client, number = ("", 0) if who is None else who
        self.assert_gives((client, number, command), command_of, request)
        if who is None:
            self.assert_gives(request, request_of, command, "ben", 8)

    def test_every_row(self):
        self.both_ways(("subjects",), "GET", "/subjects")
        self.both_ways(("mode", None), "GET", "/mode")
        for number in (1, 9, 10, 999999999):
            self.both_ways(("schema", number), "GET", f"/schemas/{number}")
        who = ("a n", 12)
        self.both_ways(("set mode", None, "back all"), "PUT", "/mode", '{"mode":"back all"}', who)
        for subject, word in (("log", "log"), ("a b/c", "a~20b~2fc"), ("\n", "~0a"), ("~" * 60, "~7e" * 60), ("latest", "latest"),
                              ("versions", "versions"), ("all", "all"), ("?forever", "~3fforever"), ("..", ".."), ("1", "1")):
            self.both_ways(("versions", subject), "GET", f"/subjects/{word}/versions")
            self.both_ways(("mode", subject), "GET", f"/mode/{word}")
            self.both_ways(("set mode", subject, ""), "PUT", f"/mode/{word}", '{"mode":""}', who)
            self.both_ways(("lookup", subject, "x\n", ()), "POST", f"/subjects/{word}", '{"schema":"x\\n"}')
            self.both_ways(("register", subject, '"int"', ()), "POST", f"/subjects/{word}/versions", SCHEMA_BODY, who)
            for version in (1, 3, 10, 999999999, "latest", "all"):
                if version != "all":
                    self.both_ways(("version", subject, version), "GET", f"/subjects/{word}/versions/{version}")
                    self.both_ways(("remove version", subject, version, False), "DELETE", f"/subjects/{word}/versions/{version}",
                                   "", who)
                self.both_ways(("fits", subject, version, '"int"', ()), "POST", f"/subjects/{word}/fits/{version}", SCHEMA_BODY)
            for version in (1, 999999999):
                self.both_ways(("remove version", subject, version, True), "DELETE",
                               f"/subjects/{word}/versions/{version}?forever", "", who)
            self.both_ways(("remove subject", subject, False), "DELETE", f"/subjects/{word}", "", who)
            self.both_ways(("remove subject", subject, True), "DELETE", f"/subjects/{word}?forever", "", who)

    def test_references(self):
        references = (("a.F", "sub ject", 3), ("", "\\", 999999999999999))
        body = '{"schema":"\\"a.F\\"","references":[["a.F","sub ject",3],["","\\\\",999999999999999]]}'
        self.both_ways(("lookup", "s", '"a.F"', references), "POST", "/subjects/s", body)
        self.both_ways(("fits", "s", "all", '"a.F"', references), "POST", "/subjects/s/fits/all", body)
        self.both_ways(("register", "s", '"a.F"', references), "POST", "/subjects/s/versions", body, ("x", 1))

    def test_methods_that_do_not_fit(self):
        targets = {
            "/subjects": "GET", "/subjects/s/versions": "GET POST", "/subjects/s/versions/1": "GET DELETE", "/schemas/1": "GET",
            "/mode": "GET PUT", "/mode/s": "GET PUT", "/subjects/s": "POST DELETE", "/subjects/s/fits/1": "POST",
        }
        for target, methods in targets.items():
            for method in ("GET", "POST", "PUT", "DELETE", "HEAD", "PATCH", "GETS", "G", "ET"):
                found = command_of(Request(method, target, WHO, raw(MODE_BODY if method == "PUT" else SCHEMA_BODY)))
                if method in methods.split():
                    self.assertEqual(3, len(found), (method, target))
                else:
                    self.assertEqual(BAD_TARGET, found, (method, target))

    def test_targets_that_do_not_fit(self):
        for target in (
            "/", "//", "/subject", "/Subjects", "/subjects/", "//subjects", "/subjects/s/", "/subjects/s/version", "/subjects/s/versions/",
            "/subjects/s/versions/1/", "/subjects/s/versions/1/2", "/subjects//versions", "/subjects//versions/1", "/schemas",
            "/schemas/", "/schemas/s", "/schemas/1/2", "/schemas/latest", "/schemas/all", "/mode/", "/mode/s/", "/mode/s/t", "/modes",
            "/subjects/s/fits", "/subjects/s/fits/", "/subjects/s/fits/1/", "/subjects/s/fits/last", "/subjects/s/fits/Latest",
            "/subjects/s/versions/all", "/subjects/s/versions/last", "/x/subjects", "/subjects/s/schemas/1",
        ):
            for method in ("GET", "POST", "PUT", "DELETE"):
                self.assert_command(BAD_TARGET, method, target, WHO, SCHEMA_BODY)

    def test_subjects(self):
        for word in ("", "~", "~41", "~2F", "a b", "~25", "a?b", "?forever", "a?forever", "%20".replace("%", "~"), "+"):
            expected = ("", 0, ("mode", " ")) if word == "~20" else BAD_TARGET
            self.assert_command(expected, "GET", "/mode/" + word)
        for count in (0, 1, 59, 60, 61, 200):
            for character, word in (("a", "a"), (" ", "~20")):
                for method, target, rest in (("GET", "/mode/S", ("mode",)), ("GET", "/subjects/S/versions", ("versions",))):
                    expected = ("", 0, rest + (character * count,)) if 1 <= count <= 60 else BAD_TARGET
                    self.assert_command(expected, method, target.replace("S", word * count))

    def test_numbers(self):
        for word in ("0", "01", "1000000000", "0000000001", "-1", "+1", "1.0", "1_0", "~31", "x", "", "1x", "latest1", "LATEST", "1?forever"):
            for method, target in (("GET", "/schemas/"), ("GET", "/subjects/s/versions/"), ("POST", "/subjects/s/fits/")):
                self.assert_command(BAD_TARGET, method, target + word, WHO, SCHEMA_BODY)
            if word != "1?forever":
                self.assert_command(BAD_TARGET, "DELETE", "/subjects/s/versions/" + word, WHO)
                self.assert_command(BAD_TARGET, "DELETE", f"/subjects/s/versions/{word}?forever", WHO)
        for word in ("1", "9", "123456789", "999999999"):
            self.assert_command(("", 0, ("schema", int(word))), "GET", "/schemas/" + word)
            self.assert_command(("", 0, ("version", "s", int(word))), "GET", "/subjects/s/versions/" + word)
            self.assert_command(("ann", 7, ("remove version", "s", int(word), True)), "DELETE",
                                f"/subjects/s/versions/{word}?forever", WHO)

    def test_forever(self):
        for method, target in (
            ("GET", "/subjects"), ("GET", "/subjects/s/versions"), ("GET", "/subjects/s/versions/1"), ("GET", "/schemas/1"),
            ("GET", "/mode"), ("GET", "/mode/s"), ("POST", "/subjects/s"), ("POST", "/subjects/s/fits/1"), ("POST", "/subjects/s/versions"),
            ("PUT", "/mode"), ("PUT", "/mode/s"), ("DELETE", "/subjects/s/versions/latest"), ("DELETE", "/subjects"), ("DELETE", "/"),
            ("DELETE", "/subjects/s/versions"), ("DELETE", "/mode/s"), ("DELETE", "/subjects/s/"), ("DELETE", "/subjects/"),
        ):
            body = MODE_BODY if method == "PUT" else SCHEMA_BODY
            self.assert_command(BAD_TARGET, method, target + "?forever", WHO, body)
        for method, target in (("DELETE", "/subjects/s"), ("DELETE", "/subjects/s/versions/1"), ("DELETE", "/subjects/latest")):
            self.assertEqual(3, len(command_of(Request(method, target + "?forever", WHO, []))))
            for end in ("?", "?forever?forever", "?forever=1", "?Forever", "?forever/", "?never", "?foreve", "/?forever", "&forever",
                        "?forever "):
                self.assert_command(BAD_TARGET, method, target + end, WHO)

    def test_commands_by_chance(self):
        chosen = random.Random(191)
        maker = CommandMaker(chosen, Registry())
        for _ in range(1000):
            asking = maker.asking()
            self.assert_gives(("", 0, asking), command_of, self.called(request_of, asking))
            client, number, command = maker.change()
            self.assert_gives((client, number, command), command_of, self.called(request_of, command, client, number))
            maker.registry.change(client, number, command)


class BodiesTest(ServiceTest):
    """Point 19.3."""

    def assert_schema(self, facts, body):
        """A body tells these facts, or is a bad one for None."""
        for method, target, command, headers in (
            ("POST", "/subjects/s", ("lookup", "s"), ()), ("POST", "/subjects/s/fits/2", ("fits", "s", 2), ()),
            ("POST", "/subjects/s/versions", ("register", "s"), WHO),
        ):
            who = ("ann", 7) if headers else ("", 0)
            self.assert_command(BAD_BODY if facts is None else who + (command + facts,), method, target, headers, body)

    def assert_references(self, references, rows):
        self.assert_schema(None if references is None else ("x", references), json.dumps({"schema": "x", "references": rows}))

    def test_schemas(self):
        for body, text in (
            ('{"schema":""}', ""), (' {\n"schema"\t: "a\\u0041\\/" } ', "aA/"), ('{"schema":"x","references":[]}', "x"),
            ('{"references":[],"schema":"x"}', "x"), ('{"schema":"{\\"kind\\":1}"}', '{"kind":1}'),
            ('{"schema":"' + "x" * 100000 + '"}', "x" * 100000), ('{"schema":"' + "\\n" * 100000 + '"}', "\n" * 100000),
        ):
            self.assert_schema((text, ()), body)

    def test_what_is_no_body(self):
        for body in (
            "", " ", "null", "1", '"x"', "[]", "{}", '["schema","x"]', '{"schema":"x"', '{"schema":"x"}}', '{"schema":"x",}', "{'schema':1}",
            '{"schema":null}', '{"schema":1}', '{"schema":true}', '{"schema":["x"]}', '{"schema":{"kind":"int"}}', '{"Schema":"x"}',
            '{"references":[]}', '{"schema":"x","mode":"none"}', '{"schema":"x","references":[],"x":1}', '{"schema":"x","x":[]}',
            '{"schema":"x","schema":"x"}', '{"schema":"x","references":null}', '{"schema":"x","references":{}}',
            '{"schema":"x","references":"F"}', '{"schema":"x","references":1}', '{"schema":"x","references":true}',
            '{"schema":"' + "x" * 100001 + '"}', '{"schema":"\\u0025"}', MODE_BODY, "[" * 50,
        ):
            self.assert_schema(None, body)
        for body in ([123, 34, 200], raw('{"schema":"') + [37] + raw('"}'), raw('{"schema":"x"}') + [13, 10], [0]):
            self.assert_schema(None, body)

    def test_references(self):
        for rows in (
            [["F", "s", 1]], [["F", "s", 1], ["F", "s", 1]], [["", "s", 1]], [["x" * 60, "y" * 60, 10 ** 15 - 1]], [["a b", "\n", 2]],
            [["F", "s", 1]] * 40, [["F", "s", at] for at in range(1, 40)],
        ):
            self.assert_references(tuple(map(tuple, rows)), rows)
        self.assert_references((), [])

    def test_what_are_no_references(self):
        for row in (
            [], ["F"], ["F", "s"], ["F", "s", 1, 1], ["F", "s", 0], ["F", "s", -1], ["F", "s", True], ["F", "s", None], ["F", "s", "1"],
            ["F", "s", [1]], ["F", "", 1], ["F", "s" * 61, 1], ["F" * 61, "s", 1], [1, "s", 1], [None, "s", 1], ["F", 1, 1],
            ["F", None, 1], [["F"], "s", 1], ["F", False, 1], "Fs1", None, 1, {"name": "F", "subject": "s", "version": 1}, "", {},
            ["F", "s", 10 ** 15], ["F", "s", False], ["s", 1, "F"],
        ):
            for rows in ([row], [["F", "s", 1], row], [row, ["F", "s", 1]]):
                self.assert_references(None, rows)
        self.assert_references(None, [["F", "s", 1]] * 41)
        self.assert_references(None, [[]] * 41)

    def test_modes(self):
        for mode in ("none", "", "any text\n", "x" * 1000):
            body = json.dumps({"mode": mode})
            self.assert_command(("ann", 7, ("set mode", None, mode)), "PUT", "/mode", WHO, body)
            self.assert_command(("ann", 7, ("set mode", "s", mode)), "PUT", "/mode/s", WHO, " " + body + "\n")
        for body in ("", "null", '"none"', "[]", "{}", '{"mode":null}', '{"mode":1}', '{"mode":true}', '{"mode":["none"]}',
                     '{"Mode":"none"}', '{"mode":"none","x":1}', '{"mode":"none","schema":"x"}', '{"schema":"none"}', SCHEMA_BODY,
                     '{"mode":"none","mode":"none"}', '{"mode":"none"', "none"):
            self.assert_command(BAD_BODY, "PUT", "/mode", WHO, body)
            self.assert_command(BAD_BODY, "PUT", "/mode/s", WHO, body)
        self.assert_command(BAD_BODY, "PUT", "/mode", WHO, raw('{"mode":"') + [37] + raw('"}'))

    def test_bodies_of_other_methods_are_ignored(self):
        for body in ("x", SCHEMA_BODY, [0, 255, 37]):
            self.assert_command(("", 0, ("subjects",)), "GET", "/subjects", (), body)
            self.assert_command(("ann", 7, ("remove subject", "s", False)), "DELETE", "/subjects/s", WHO, body)
            self.assert_command(("ann", 7, ("remove version", "s", 1, True)), "DELETE", "/subjects/s/versions/1?forever", WHO, body)

    def test_bodies_of_1000000_octets(self):
        began = time.process_time()
        bad = ['{"schema":"' + body + '"}' for body in ("x" * 999986, "[" * 999986, "\\n" * 499993)] + ["[1," * 333333, "1" * 1000000]
        for body in bad:
            self.assertEqual(BAD_BODY, command_of(Request("POST", "/subjects/s", (), raw(body))))
        request = Request("POST", "/subjects/s", (), raw('{"schema":' + " " * 999980 + '"x"}'))
        self.assertEqual(("", 0, ("lookup", "s", "x", ())), command_of(request))
        request = Request("PUT", "/mode", WHO, raw('{"mode":"' + "x" * 999980 + '"}'))
        self.assertEqual(("ann", 7, ("set mode", None, "x" * 999980)), command_of(request))
        self.assertLess(time.process_time() - began, 60)


class HeadersTest(ServiceTest):
    """Points 19.4 and 19.5."""

    CHANGING = (
        ("POST", "/subjects/s/versions", SCHEMA_BODY, ("register", "s", '"int"', ())), ("PUT", "/mode", MODE_BODY, ("set mode", None, "none")),
        ("PUT", "/mode/s", MODE_BODY, ("set mode", "s", "none")),
        ("DELETE", "/subjects/s/versions/latest", "", ("remove version", "s", "latest", False)),
        ("DELETE", "/subjects/s/versions/5?forever", "", ("remove version", "s", 5, True)),
        ("DELETE", "/subjects/s", "", ("remove subject", "s", False)), ("DELETE", "/subjects/s?forever", "", ("remove subject", "s", True)),
    )

    def assert_who(self, client, number, *headers):
        """The headers tell a client and a number, or are bad ones for None."""
        for method, target, body, command in self.CHANGING:
            expected = BAD_CLIENT if client is None else (client, number, command)
            self.assert_command(expected, method, target, headers, body)
            self.assert_command(expected, method, target, (("accept", "x"),) + headers + (("zz", ""),), body)

    def test_good_headers(self):
        self.assert_who("ann", 7, *WHO)
        self.assert_who("ann", 7, *WHO[::-1])
        for word, client in (("a", "a"), ("~20", " "), ("a" * 60, "a" * 60), ("~7e" * 60, "~" * 60), ("~0a~09", "\n\t"), ("7", "7")):
            self.assert_who(client, 7, ("client", word), ("request", "7"))
        for number in (1, 9, 10, 99999999999, 999999999999):
            self.assert_who("ann", number, ("client", "ann"), ("request", str(number)))

    def test_missing_headers(self):
        self.assert_who(None, 0)
        self.assert_who(None, 0, WHO[0])
        self.assert_who(None, 0, WHO[1])
        self.assert_who(None, 0, ("clients", "ann"), ("request", "7"))
        self.assert_who(None, 0, ("client", "ann"), ("requests", "7"))

    def test_wrong_headers(self):
        for word in ("", "a" * 61, "~20" * 61, "a b", "~", "~41", "~2F", "~25", "a/b", "\"ann\""):
            self.assert_who(None, 0, ("client", word), ("request", "7"))
        for word in ("", "0", "01", "007", "1000000000000", "0000000000001", "-1", "+7", "7.0", "7 7", "1_0", "x", "7x", "~37", "1e3"):
            self.assert_who(None, 0, ("client", "ann"), ("request", word))

    def test_headers_that_occur_twice(self):
        self.assert_who("ann", 7, ("client", "ann"), ("request", "7"), ("client", "ben"), ("request", "8"), ("client", ""))
        self.assert_who("ben", 8, ("request", "8"), ("client", "ben"), ("client", "ann"), ("request", "x"))
        self.assert_who(None, 0, ("client", ""), ("client", "ann"), ("request", "7"))
        self.assert_who(None, 0, ("client", "ann"), ("request", "0"), ("request", "7"))

    def test_commands_that_ask_need_none(self):
        for method, target, body in (("GET", "/subjects", ""), ("POST", "/subjects/s", SCHEMA_BODY), ("GET", "/mode/s", ""),
                                     ("POST", "/subjects/s/fits/all", SCHEMA_BODY), ("GET", "/schemas/1", "")):
            for headers in ((), WHO, (("client", "~"), ("request", "0"))):
                self.assertEqual(("", 0), command_of(Request(method, target, headers, raw(body)))[:2])

    def test_which_refusal_is_told(self):
        self.assert_command(BAD_TARGET, "PUT", "/modes", (), "")
        self.assert_command(BAD_TARGET, "DELETE", "/subjects/s/versions/0", (("client", ""),), "")
        self.assert_command(BAD_TARGET, "POST", "/subjects//versions", (), "x")
        self.assert_command(BAD_CLIENT, "PUT", "/mode", (), "")
        self.assert_command(BAD_CLIENT, "POST", "/subjects/s/versions", (("client", "ann"),), "x")
        self.assert_command(BAD_BODY, "PUT", "/mode", WHO, "")
        self.assert_command(BAD_BODY, "POST", "/subjects/s/versions", WHO, "x")
        self.assert_command(BAD_BODY, "POST", "/subjects/s", (), "x")


class AnswersTest(ServiceTest):
    """Point 19.6."""

    STATUSES = {
        "no subject": 404, "no version": 404, "no schema": 404, "old": 409, "not fitting": 409, "in use": 409, "standing": 409,
        "bad mode": 400, "bad reference": 400, "bad schema": 400, "bad target": 400, "bad client": 400, "bad body": 400, "bad http": 400,
        "anything": 400, "": 400,
    }
    ANSWERS = (
        ("done",), ("done", ()), ("done", 1, 2), ("done", ("a", "b\n\"\\")), ("done", "log", 1, 1, '"F"', (("F", "f", 1), ("G", "g", 2))),
        ("done", (1, 2, 3)), ("done", True, None, False, (True, (None, ((),)))), ("done", -5, 10 ** 15 - 1),
        ("refused", "not fitting", 1, "back", (0, 255)), ("refused", "in use", "a", 1), ("refused", "bad schema", 7),
    )

    def test_statuses(self):
        self.assertEqual(200, answer_octets(("done",)).status)
        for reason, status in self.STATUSES.items():
            for rest in ((), (1,), ("old",)):
                self.assertEqual(status, self.called(answer_octets, ("refused", reason) + rest).status)
        self.assertEqual(200, answer_octets(("done", "no subject")).status)

    def test_answers_both_ways(self):
        for answer in self.ANSWERS + tuple(("refused", reason) for reason in self.STATUSES):
            message = self.called(answer_octets, answer)
            self.assertIs(Answer, message.__class__)
            self.assertEqual((("content-type", "application/json"),), message.headers)
            self.assertEqual(json.dumps(answer, separators=(",", ":")), text_of(message.body))
            self.assert_gives(answer, told_answer, message)

    def test_what_an_answer_tells(self):
        for text, answer in ((' [ "done" , [ 1 , [ ] ] ]\n', ("done", (1, ()))), ("[]", ()), ("1", 1), ('["x"]', ("x",)),
                             ('{"a":[1,{"b":[]}]}', {"a": (1, {"b": ()})}), ('["done",{"a":[[]]}]', ("done", {"a": ((),)}))):
            self.assert_gives(answer, told_answer, Answer(599, (), raw(text)))

    def test_the_octets_of_an_answer(self):
        self.assertEqual(raw("HTTP/1.1 404 Refused\r\ncontent-type: application/json\r\ncontent-length: 24\r\n\r\n"
                             '["refused","no subject"]'), write_message(answer_octets(("refused", "no subject"))))
        self.assertEqual(raw('HTTP/1.1 200 OK\r\ncontent-type: application/json\r\ncontent-length: 12\r\n\r\n["done",1,1]'),
                         write_message(answer_octets(("done", 1, 1))))

    def test_the_service_answers(self):
        keeper = Keeper(Disk())
        service = Service(keeper)
        registry = Registry()
        maker = CommandMaker(random.Random(192), registry)
        for _ in range(300):
            client, number, command = maker.change()
            expected = answer_octets(registry.change(client, number, command))
            self.assertEqual(strictly(expected), strictly(service.answer(request_of(command, client, number))))
            question = maker.asking()
            self.assertEqual(strictly(answer_octets(registry.ask(question))), strictly(service.answer(request_of(question))))

    def test_requests_that_are_refused_do_not_ask_the_keeper(self):
        service = Service(None)
        for request, answer in (
            (Request("GET", "/", (), []), BAD_TARGET), (Request("PUT", "/mode", (), []), BAD_CLIENT),
            (Request("PUT", "/mode", WHO, []), BAD_BODY),
        ):
            self.assertEqual(answer_octets(answer), self.called(service.answer, request))

    def test_power_lost(self):
        disk = Disk()
        service = Service(Keeper(disk))
        disk.allow(0)
        self.assert_raises_at(PowerLost, 0, service.answer, request_of(("set mode", None, "none"), "ann", 1))
        self.assertEqual(answer_octets(("done", ())), service.answer(request_of(("subjects",))))


class SessionsTest(ServiceTest):
    """Point 19.7."""

    REQUESTS = (
        request_of(("register", "log", '"int"', ()), "ann", 1), request_of(("register", "log", '"long"', ()), "ben", 1),
        request_of(("version", "log", "latest")), Request("GET", "/nothing", (), []), request_of(("register", "log", '"int"', ()), "ann", 1),
        request_of(("remove version", "log", 1, False), "ann", 2), request_of(("schema", 2)), Request("PUT", "/mode", WHO, []),
    )
    ANSWERS = (
        ("done", 1, 1), ("done", 2, 2), ("done", "log", 2, 2, '"long"', ()), BAD_TARGET, ("done", 1, 1), ("done", 1),
        ("done", '"long"', (), '"long"'), BAD_BODY,
    )

    def session(self):
        return Session(Service(Keeper(Disk())))

    def octets_of_answers(self, answers):
        return [octet for answer in answers for octet in write_message(answer_octets(answer))]

    def pieces(self, octets, lengths):
        at = 0
        for length in lengths:
            yield octets[at:at + length]
            at += length
        yield octets[at:]

    def test_one_request_after_the_other(self):
        session = self.session()
        for request, answer in zip(self.REQUESTS, self.ANSWERS):
            for chunks in (None, [len(request.body)] if request.body else []):
                octets = write_message(request, chunks)
                if chunks is None:
                    self.assert_gives(self.octets_of_answers([answer]), session.receive, octets)
        self.assertIs(False, session.over)

    def test_whole_and_in_pieces(self):
        octets = [octet for request in self.REQUESTS for octet in write_message(request)]
        expected = self.octets_of_answers(self.ANSWERS)
        self.assert_gives(expected, self.session().receive, octets)
        chosen = random.Random(193)
        for lengths in ([1] * len(octets), [2] * len(octets), [chosen.randrange(200) for _ in range(40)]):
            session = self.session()
            given = []
            for piece in self.pieces(octets, lengths):
                given += self.called(session.receive, piece)
            self.assertEqual(expected, given)
            self.assertIs(False, session.over)

    def test_each_answer_is_given_when_its_request_is_complete(self):
        session = self.session()
        for request, answer in zip(self.REQUESTS, self.ANSWERS):
            octets = write_message(request)
            for octet in octets[:-1]:
                self.assert_gives([], session.receive, [octet])
            self.assert_gives(self.octets_of_answers([answer]), session.receive, octets[-1:])
        self.assert_gives([], session.receive, [])

    def test_bodies_in_chunks(self):
        session = self.session()
        request = self.REQUESTS[0]
        octets = write_message(request, [1] * len(request.body)) + write_message(self.REQUESTS[2], [])
        self.assert_gives(self.octets_of_answers([("done", 1, 1), ("done", "log", 1, 1, '"int"', ())]), session.receive, octets)

    def test_a_fault_behind_whole_requests(self):
        good = write_message(self.REQUESTS[0]) + write_message(self.REQUESTS[1])
        expected = self.octets_of_answers(self.ANSWERS[:2] + (BAD_HTTP,))
        self.assertEqual(400, answer_octets(BAD_HTTP).status)
        for fault in (raw("x\n"), raw("get / HTTP/1.1\r\n"), raw("GET / HTTP/1.1\r\ncontent-length: x\r\n\r\n"), [120] * 4000):
            octets = good + fault + good
            session = self.session()
            self.assert_gives(expected, session.receive, octets)
            self.assertIs(True, session.over)
            self.assert_gives([], session.receive, good)
            self.assertIs(True, session.over)
            session = self.session()
            given = []
            for at, octet in enumerate(octets):
                given += session.receive([octet])
                self.assertIs(at >= len(good + fault) - 1, session.over)
            self.assertEqual(expected, given)

    def test_a_fault_at_once(self):
        session = self.session()
        self.assertIs(False, session.over)
        self.assert_gives(self.octets_of_answers([BAD_HTTP]), session.receive, [10])
        self.assert_gives([], session.receive, write_message(self.REQUESTS[0]))
        self.assertIsNone(session.service.keeper.registry().remembered("ann"))

    def test_power_lost(self):
        disk = Disk()
        session = Session(Service(Keeper(disk)))
        disk.allow(3)
        octets = write_message(self.REQUESTS[0]) + write_message(self.REQUESTS[1]) + write_message(self.REQUESTS[2])
        self.assert_raises_at(PowerLost, 0, session.receive, octets)
        disk.lose([])
        self.assertEqual(("done", (1,)), Keeper(disk).ask(("versions", "log")))

    def test_the_lists_are_the_callers_own(self):
        session = self.session()
        octets = write_message(self.REQUESTS[0])
        piece = octets[:20]
        given = session.receive(piece)
        piece.clear()
        given.append(7)
        given = session.receive(octets[20:])
        self.assertEqual(self.octets_of_answers([("done", 1, 1)]), given)
        given.clear()
        self.assertEqual([], session.receive([]))

    def test_the_answers_are_read_by_a_reader(self):
        octets = [octet for request in self.REQUESTS for octet in write_message(request)]
        events = Reader("answer").feed(self.session().receive(octets))
        self.assertEqual(list(self.ANSWERS), [told_answer(message) for _, message in events])

    def test_bodies_of_1000000_octets(self):
        began = time.process_time()
        text = '{"kind":"int","doc":"' + "x" * 99977 + '"}'
        body = '{"schema":' + " " * (1000000 - 10 - len(json.dumps(text)) - 1) + json.dumps(text) + "}"
        self.assertEqual(1000000, len(body))
        request = Request("POST", "/subjects/log/versions", WHO, raw(body))
        for octets in (write_message(request), write_message(request, [1000] * 1000)):
            self.assert_gives(self.octets_of_answers([("done", 1, 1)]), self.session().receive, octets)
            session = self.session()
            given = [octet for at in range(len(octets)) for octet in session.receive(octets[at:at + 1])]
            self.assertEqual(self.octets_of_answers([("done", 1, 1)]), given)
        self.assertLess(time.process_time() - began, 100)


if __name__ == "__main__":
    unittest.main()
