"""Chapter "Requests and answers as octets": points 18.1 to 18.5."""

import random
import time
import unittest

from formkeeper.http import Answer, Reader, Request, write_message
from tests.http_reference import read_all
from tests.support import ProgramTest, strictly


def octets_of(text):
    """Returns the octets of a text in which each line ends with a line feed alone."""
    return [ord(character) for character in text.replace("\n", "\r\n")]


def raw(text):
    return [ord(character) for character in text]


def fed_in_pieces(kind, octets, lengths):
    """Returns the events of octets that are fed in pieces of these lengths and the rest, each behind the number of the
    octets that were fed when it was told; and what `finish` returns."""
    reader = Reader(kind)
    events, at = [], 0
    for length in list(lengths) + [len(octets)]:
        piece = octets[at:at + length]
        before = list(piece)
        found = reader.feed(piece)
        assert piece == before
        at += len(piece)
        events += [(at, event) for event in found]
    return events, reader.finish()


class HttpTest(ProgramTest):

    def assert_alike(self, kind, octets, chosen=None):
        """The octets are told as the second reading tells them: whole, octet by octet, and in other pieces."""
        expected, cut = read_all(kind, octets)
        told = strictly([event for _, event in expected])
        events, end = fed_in_pieces(kind, octets, [])
        self.assertEqual((told, cut), (strictly([event for _, event in events]), end), octets)
        events, end = fed_in_pieces(kind, octets, [1] * len(octets))
        self.assertEqual((strictly(expected), cut), (strictly(events), end), octets)
        if chosen is not None:
            lengths = [chosen.choice([0, 1, 2, 5, 30, 100]) for _ in range(len(octets) // 4)]
            events, end = fed_in_pieces(kind, octets, lengths)
            self.assertEqual((told, cut), (strictly([event for _, event in events]), end), octets)
            ends = [0]
            for length in lengths + [len(octets)]:
                ends.append(min(len(octets), ends[-1] + length))
            for (decided, _), (at, _) in zip(expected, events):
                self.assertEqual(min(end for end in ends if end >= decided), at)

    def assert_events(self, events, kind, octets):
        """Fed whole and octet by octet, just these events are told."""
        self.assert_gives(events, Reader(kind).feed, octets)
        self.assertEqual(strictly(events), strictly([event for _, event in fed_in_pieces(kind, octets, [1] * len(octets))[0]]))
        self.assert_alike(kind, octets)

    def assert_message(self, message, octets):
        kind = "request" if isinstance(message, Request) else "answer"
        self.assert_events([("message", message)], kind, octets)
        self.assert_events([("message", message)] * 2, kind, octets + octets)

    def assert_fault(self, place, kind, octets):
        """There is a fault at this place, when the last octet arrives; nothing is told behind it."""
        self.assert_events([("fault", place)], kind, octets)
        self.assert_gives([], Reader(kind).feed, octets[:-1])
        reader = Reader(kind)
        reader.feed(octets)
        self.assert_gives([], reader.finish)
        self.assert_gives([], reader.feed, octets_of("GET / HTTP/1.1\n\n"))
        self.assert_gives([], reader.feed, octets_of("HTTP/1.1 200 \n\n"))
        self.assert_gives([], reader.finish)
        before = octets_of("GET /before HTTP/1.1\n\n" if kind == "request" else "HTTP/1.1 201 \ncontent-length:1\n\n7")
        events = Reader(kind).feed(before + octets + before)
        self.assertEqual(["message", "fault"], [event[0] for event in events])
        self.assertEqual(len(before) + place, events[1][1])


class MessagesTest(HttpTest):
    """Points 18.1 to 18.3."""

    def test_examples_of_the_document(self):
        self.assertEqual(45, len(write_message(Request("GET", "/subjects", (), []))))
        self.assertEqual([("fault", 2)], Reader("answer").feed([72, 84, 10]))

    def test_attributes(self):
        headers, body = (("a", "b"),), [1]
        request = Request("GET", "/", headers, body)
        self.assertEqual(("GET", "/", headers, body), (request.method, request.target, request.headers, request.body))
        self.assertIs(body, request.body)
        answer = Answer(200, headers, body)
        self.assertEqual((200, headers, body), (answer.status, answer.headers, answer.body))
        self.assertIs(body, answer.body)

    def test_equality(self):
        parts = ("GET", "/", (("a", "b"),), [1])
        others = ("PUT", "/x", (("a", "c"),), [])
        self.assertTrue(Request(*parts) == Request("GET", "/", (("a", "b"),), [1]))
        for at in range(4):
            self.assertFalse(Request(*parts) == Request(*parts[:at], others[at], *parts[at + 1:]))
        self.assertTrue(Answer(200, (), [1]) == Answer(200, (), [1]))
        for other in (Answer(201, (), [1]), Answer(200, (("a", "b"),), [1]), Answer(200, (), [2])):
            self.assertFalse(Answer(200, (), [1]) == other)
        self.assertFalse(Request("GET", "/", (), []) == Answer(200, (), []))
        self.assertFalse(Answer(200, (), []) == Request("GET", "/", (), []))
        for value in (None, 1, "GET", ("GET", "/", (), []), [], (200, (), [])):
            self.assertFalse(Request("GET", "/", (), []) == value)
            self.assertFalse(Answer(200, (), []) == value)

    def test_the_octets_of_requests(self):
        self.assert_gives(octets_of("GET / HTTP/1.1\ncontent-length: 0\n\n"), write_message, Request("GET", "/", (), []))
        request = Request("ABCDEFGHIJ", "/a?b=c&d", (("x", ""), ("a-1", "b  c"), ("x", "~ !")), raw("a\n\r\x00\xff"))
        self.assert_gives(octets_of("ABCDEFGHIJ /a?b=c&d HTTP/1.1\nx: \na-1: b  c\nx: ~ !\ncontent-length: 5\n\n")
                          + [97, 10, 13, 0, 255], write_message, request)

    def test_the_octets_of_answers(self):
        self.assert_gives(octets_of("HTTP/1.1 200 OK\ncontent-length: 0\n\n"), write_message, Answer(200, (), []))
        self.assert_gives(octets_of("HTTP/1.1 404 Refused\na: b\ncontent-length: 12\n\n") + [7] * 12,
                          write_message, Answer(404, (("a", "b"),), [7] * 12))

    def test_all_reasons(self):
        for status in range(100, 600):
            reason = "OK" if status == 200 else "Refused" if 400 <= status < 500 else "Other"
            octets = octets_of(f"HTTP/1.1 {status} {reason}\ncontent-length: 0\n\n")
            self.assert_gives(octets, write_message, Answer(status, (), []))
            self.assert_gives([("message", Answer(status, (), []))], Reader("answer").feed, octets)

    def test_chunks(self):
        head = "PUT /x HTTP/1.1\na: b\ntransfer-encoding: chunked\n\n"
        body = raw("0123456789abcdefghij")
        request = Request("PUT", "/x", (("a", "b"),), body)
        self.assert_gives(octets_of(head + "14\n0123456789abcdefghij\n0\n\n"), write_message, request, [20])
        self.assert_gives(octets_of(head + "1\n0\n9\n123456789\na\nabcdefghij\n0\n\n"), write_message, request, [1, 9, 10])
        self.assert_gives(octets_of(head + "0\n\n"), write_message, Request("PUT", "/x", (("a", "b"),), []), [])
        answer = Answer(200, (), [5] * 5000)
        self.assert_gives(octets_of("HTTP/1.1 200 OK\ntransfer-encoding: chunked\n\nfff\n") + [5] * 4095 + octets_of("\n389\n")
                          + [5] * 905 + octets_of("\n0\n\n"), write_message, answer, [4095, 905])

    def test_nothing_is_shared(self):
        request = Request("GET", "/", (), [1, 2])
        write_message(request).clear()
        write_message(request, [2]).clear()
        self.assertEqual([1, 2], request.body)

    def test_reading_what_was_written(self):
        chosen = random.Random(180)
        for _ in range(300):
            message = some_message(chosen)
            kind = "request" if isinstance(message, Request) else "answer"
            lengths = some_lengths(chosen, len(message.body))
            octets = self.called(write_message, message, chosen.choice([None, lengths]))
            self.assert_gives([("message", message)], Reader(kind).feed, octets)
            self.assert_alike(kind, octets + write_message(message), chosen)


def some_text(chosen, least, most, characters):
    return "".join(chosen.choice(characters) for _ in range(chosen.randrange(least, most + 1)))


VISIBLE = "".join(chr(code) for code in range(33, 127) if code != 37)


def some_message(chosen):
    headers = tuple(
        (some_text(chosen, 1, 12, "abcxyz0189-") + "x", some_text(chosen, 0, 9, VISIBLE + " ").strip(" "))
        for _ in range(chosen.choice([0, 0, 1, 2, 5, 38])))
    body = [chosen.randrange(256) for _ in range(chosen.choice([0, 0, 1, 2, 20, 300]))]
    if chosen.randrange(2):
        return Answer(chosen.randrange(100, 600), headers, body)
    return Request(some_text(chosen, 1, 10, "ABYZ"), "/" + some_text(chosen, 0, 20, VISIBLE), headers, body)


def some_lengths(chosen, count):
    lengths = []
    while count:
        lengths.append(chosen.randrange(1, min(count, 40) + 1))
        count -= lengths[-1]
    return lengths


class ReadingTest(HttpTest):
    """Point 18.4: messages that are read."""

    def test_messages_without_a_length(self):
        self.assert_message(Request("GET", "/", (), []), octets_of("GET / HTTP/1.1\n\n"))
        self.assert_message(Answer(204, (("a", "b"),), []), octets_of("HTTP/1.1 204 No Content\na: b\n\n"))

    def test_first_lines(self):
        for line, message in (
            ("A / HTTP/1.1", Request("A", "/", (), [])), ("ABCDEFGHIJ //a/?b HTTP/1.1", Request("ABCDEFGHIJ", "//a/?b", (), [])),
            ("GET /!~#\"$& HTTP/1.1", Request("GET", "/!~#\"$&", (), [])),
            ("GET /" + "x" * 3900 + " HTTP/1.1", Request("GET", "/" + "x" * 3900, (), [])),
            ("HTTP/1.1 100 ", Answer(100, (), [])), ("HTTP/1.1 599  any  text  ", Answer(599, (), [])),
            ("HTTP/1.1 200 200", Answer(200, (), [])), ("HTTP/1.1 200 ~:!", Answer(200, (), [])),
        ):
            self.assert_message(message, octets_of(line + "\n\n"))

    def test_headers(self):
        for line, header in (
            ("a:b", ("a", "b")), ("a: b", ("a", "b")), ("a:   b  ", ("a", "b")), ("a:", ("a", "")), ("a:    ", ("a", "")),
            ("A-Z0-9: x", ("a-z0-9", "x")), ("-:-", ("-", "-")), ("a: b: c", ("a", "b: c")), ("a::", ("a", ":")),
            ("X" * 40 + ":v", ("x" * 40, "v")), ("a:b  c", ("a", "b  c")), ("a:" + "v" * 3990, ("a", "v" * 3990)),
            ("Content-Lengths: x", ("content-lengths", "x")), ("content_length".replace("_", "") + ": x", ("contentlength", "x")),
        ):
            self.assert_message(Request("GET", "/", (header,), []), octets_of("GET / HTTP/1.1\n" + line + "\n\n"))

    def test_headers_that_occur_twice_are_told_twice(self):
        self.assert_message(Answer(200, (("a", "1"), ("b", ""), ("a", "1"), ("a", "2")), [9]),
                            octets_of("HTTP/1.1 200 OK\na:1\nB:\ncontent-length:1\nA:1\na:2\n\n\t"))

    def test_lengths(self):
        for value, count in (("0", 0), ("1", 1), ("  10 ", 10), ("300", 300)):
            body = [at % 256 for at in range(count)]
            for name in ("content-length", "Content-Length", "CONTENT-LENGTH"):
                self.assert_message(Request("GET", "/", (), body), octets_of(f"GET / HTTP/1.1\n{name}:{value}\n\n") + body)

    def test_bodies_in_chunks(self):
        for value in ("chunked", "  chunked  "):
            head = f"HTTP/1.1 200 OK\nTransfer-Encoding:{value}\na: b\n\n"
            for chunks, body in (
                ("0\n\n", ""), ("0000000\n\n", ""), ("1\nx\n0\n\n", "x"), ("0000001\nx\n00\n\n", "x"),
                ("a\n0123456789\nA\n0123456789\n0\n\n", "01234567890123456789"), ("01f\n" + "y" * 31 + "\n1\n\x00\n0\n\n", "y" * 31 + "\x00"),
            ):
                self.assert_message(Answer(200, (("a", "b"),), raw(body)), octets_of(head + chunks))
        octets = octets_of("HTTP/1.1 200 OK\ntransfer-encoding:chunked\n\n4\n") + [13, 10, 13, 10] + octets_of("\n0\n\n")
        self.assert_message(Answer(200, (), [13, 10, 13, 10]), octets)

    def test_the_body_of_a_message_is_the_callers_own(self):
        reader = Reader("request")
        piece = octets_of("GET /a HTTP/1.1\ncontent-length: 2\n\nxxGET /b HTTP/1.1\ncontent-length: 2\n\ny")
        event = reader.feed(piece)[0]
        event[1].body.clear()
        piece.clear()
        events = reader.feed([121])
        self.assertEqual([("message", Request("GET", "/b", (), [121, 121]))], events)
        events.clear()
        self.assertEqual([], reader.finish())

    def test_lines_of_3999_and_4000_octets(self):
        for length in (3998, 3999, 4000):
            line = "GET /" + "x" * (length - 16) + " HTTP/1.1\n"
            self.assertEqual(length, len(octets_of(line)))
            self.assert_message(Request("GET", "/" + "x" * (length - 16), (), []), octets_of(line + "\n"))
            value = "v" * (length - 4)
            octets = octets_of("HTTP/1.1 200 \na:" + value + "\n\n")
            self.assert_message(Answer(200, (("a", value),), []), octets)

    def test_40_headers(self):
        for count in (39, 40):
            lines = "".join(f"h{at}: {at}\n" for at in range(count))
            headers = tuple((f"h{at}", str(at)) for at in range(count))
            self.assert_message(Request("GET", "/", headers, []), octets_of("GET / HTTP/1.1\n" + lines + "\n"))
        lines = "".join(f"h: {at}\n" for at in range(39))
        octets = octets_of("GET / HTTP/1.1\n" + lines + "content-length: 1\n\nx")
        self.assert_message(Request("GET", "/", tuple(("h", str(at)) for at in range(39)), [120]), octets)


class FaultsTest(HttpTest):
    """Point 18.4: each fault."""

    GET = "GET / HTTP/1.1\n"
    OK = "HTTP/1.1 200 OK\n"

    def test_lines_that_are_too_long(self):
        for head in ("", self.GET, self.GET + "a: b\n"):
            begin = len(octets_of(head))
            for octet in (120, 13, 0, 255):
                self.assert_fault(begin, "request", octets_of(head) + [octet] * 4000)
            self.assert_fault(begin, "request", octets_of(head) + [120] * 3999 + [13])
        head = self.OK + "transfer-encoding: chunked\n\n"
        for chunks in ("", "1\nx\n", "0\n"):
            begin = len(octets_of(head + chunks))
            self.assert_fault(begin, "answer", octets_of(head + chunks) + [48] * 4000)
        # With 4000 octets, the last of which is the 10, a line is judged as any other.
        self.assert_fault(2, "request", [65, 65, 0] + [120] * 3995 + [13, 10])
        self.assert_fault(3999, "request", [65] * 3999 + [10])
        self.assert_fault(0, "request", [65] * 3998 + [13, 10])

    def test_lines_that_are_too_long_in_pieces(self):
        good = octets_of("GET / HTTP/1.1\n")
        for begin in (0, len(good)):
            for first in (1, 2, 1999, 2000, 3998, 3999, 4000):
                for more in (1, 2, 1999, 2001, 4000, 9000):
                    reader = Reader("request")
                    reader.feed(good[:begin])
                    self.assert_gives([("fault", begin)] if first == 4000 else [], reader.feed, [65] * first)
                    events = [("fault", begin)] if first < 4000 <= first + more else []
                    self.assert_gives(events, reader.feed, [65] * more + ([10] if events else []))
                    self.assert_gives([] if first + more >= 4000 else [("cut", begin + first + more)], reader.finish)

    def test_every_character_in_a_method_and_in_the_name_of_a_header(self):
        for code in range(33, 127):
            character = chr(code)
            if code == 37:
                continue
            octets = octets_of(f"A{character} / HTTP/1.1\na{character}: b\n\n")
            if not character.isupper():
                self.assert_fault(0, "request", octets_of(f"A{character} / HTTP/1.1\n"))
            else:
                self.assert_events([("message", Request("A" + character, "/", (("a" + character.lower(), "b"),), []))], "request", octets)
            if not character.isalnum() and character not in "-:":
                self.assert_fault(16, "request", octets_of(f"GET / HTTP/1.1\na{character}: b\n"))

    def test_octets_that_stand_in_no_line(self):
        for octet in list(range(10)) + list(range(11, 32)) + [37] + list(range(127, 256, 16)) + [127, 255]:
            for at in (0, 1, 7):
                line = raw("GET / HTTP/1.1")
                line[at] = octet
                self.assert_fault(at, "request", line + [13, 10])
            place = len(octets_of(self.GET)) + 3
            self.assert_fault(place, "request", octets_of(self.GET) + raw("a: ") + [octet] + raw("b") + [13, 10])
            # A 13 that does not stand just before the 10.
            self.assert_fault(1, "request", [65, octet, 13, 13, 10])
        head = octets_of(self.OK + "transfer-encoding: chunked\n\n")
        for octet in (0, 9, 37, 127, 255):
            self.assert_fault(len(head), "answer", head + [octet, 13, 10])
            self.assert_fault(len(head) + 1, "answer", head + [49, octet, 13, 10])
            self.assert_fault(len(head) + 3, "answer", head + octets_of("0\n") + [octet, 13, 10])

    def test_lines_without_13(self):
        self.assert_fault(0, "request", [10])
        self.assert_fault(14, "request", raw("GET / HTTP/1.1\n"))
        self.assert_fault(20, "request", octets_of(self.GET) + raw("a: b\n"))
        self.assert_fault(16, "request", octets_of(self.GET) + [10])
        head = octets_of(self.OK + "transfer-encoding: chunked\n\n")
        self.assert_fault(len(head) + 1, "answer", head + raw("0\n"))
        self.assert_fault(len(head) + 3, "answer", head + octets_of("0\n") + [10])
        # A wrong octet stands before the 10.
        self.assert_fault(1, "request", [65, 0, 65, 10])
        self.assert_fault(0, "request", [13, 65, 10])

    def test_first_lines_of_requests(self):
        for line in (
            "", " ", "GET", "GET /", "GET / ", "GET / HTTP/1.0", "GET / HTTP/1.1 ", " GET / HTTP/1.1", "GET  / HTTP/1.1",
            "GET /  HTTP/1.1", "GET /a b HTTP/1.1", "get / HTTP/1.1", "GeT / HTTP/1.1", "G1 / HTTP/1.1", "G-T / HTTP/1.1",
            "ABCDEFGHIJK / HTTP/1.1", " / HTTP/1.1", "GET a HTTP/1.1", "GET  HTTP/1.1", "GET http://x/ HTTP/1.1", "GET * HTTP/1.1",
            "GET / http/1.1", "GET / HTTP/1.10", "GET / HTTP/11", "HTTP/1.1 200 OK", "GET /\\ HTTP/2",
        ):
            self.assert_fault(0, "request", octets_of(line + "\n"))

    def test_first_lines_of_answers(self):
        for line in (
            "", "HTTP/1.1", "HTTP/1.1 ", "HTTP/1.1 200", "HTTP/1.1 20 OK", "HTTP/1.1 2000 OK", "HTTP/1.1  200 OK", "HTTP/1.1 099 OK",
            "HTTP/1.1 000 OK", "HTTP/1.1 600 OK", "HTTP/1.1 999 OK", "HTTP/1.1 2x0 OK", "HTTP/1.1 -20 OK", "HTTP/1.1 +20 OK",
            "HTTP/1.0 200 OK", "http/1.1 200 OK", " HTTP/1.1 200 OK", "HTTP/1.1x200 OK", "HTTP/1.1 200-OK", "200 OK",
            "GET / HTTP/1.1", "HTTP/1.1 2_0 OK", "HTTP/1.1 1e2 OK", "HTTP/1.1200 OK x",
        ):
            self.assert_fault(0, "answer", octets_of(line + "\n"))

    def test_headers(self):
        for line in (
            "a", " ", ":", ": b", "a b: c", "a : b", " a: b", "a_b: c", "a.b: c", "x" * 41 + ": v", "a/b:c", "\"a\": b", "~: b",
            "content-length : 1", "a~:b",
        ):
            for before in ("", "b: c\n", "content-length: x\n"):
                head = octets_of(self.GET + before)
                self.assert_fault(len(head), "request", head + octets_of(line + "\n"))

    def test_the_41st_header(self):
        for lines in (["h: v"] * 41, ["h: v"] * 40 + ["content-length: 0"], ["content-length: 0"] + ["h: v"] * 40, ["h: v"] * 40 + ["x"]):
            head = octets_of(self.OK + "".join(line + "\n" for line in lines[:40]))
            self.assert_fault(len(head), "answer", head + octets_of(lines[40] + "\n"))

    def test_the_length_of_a_body(self):
        for lines in (
            "content-length: 0\ncontent-length: 0\n", "content-length: 1\na: b\nContent-Length: 1\n",
            "transfer-encoding: chunked\nTransfer-Encoding: chunked\n", "content-length: 0\ntransfer-encoding: chunked\n",
            "transfer-encoding: chunked\ncontent-length: 0\n", "content-length:\n", "content-length: x\n", "content-length: -1\n",
            "content-length: +1\n", "content-length: 01\n", "content-length: 00\n", "content-length: 1 1\n", "content-length: 1,1\n",
            "content-length: 1000000000\n", "content-length: 0000000001\n", "content-length: 1_0\n", "content-length: 0x1\n",
            "transfer-encoding: gzip\n", "transfer-encoding:\n", "transfer-encoding: Chunked\n", "transfer-encoding: chunked, chunked\n",
            "transfer-encoding: identity\n", "transfer-encoding: gzip, chunked\n",
            "content-length: 1000001\n", "content-length: 999999999\n",
        ):
            for kind, first in (("request", self.GET), ("answer", self.OK)):
                head = octets_of(first + lines)
                self.assert_fault(len(head), kind, head + [13, 10])

    def test_the_lines_of_chunks(self):
        head = octets_of(self.OK + "transfer-encoding: chunked\n\n")
        for line in ("", "x", "00000001", "12345678", "-1", "+1", " 1", "1 ", "1;a=b", "g", "0x1", "1_0", "1.", "fffffff", "f4241"):
            self.assert_fault(len(head), "answer", head + octets_of(line + "\n"))
            more = head + octets_of("5\nabcde\n")
            self.assert_fault(len(more), "answer", more + octets_of(line + "\n"))

    def test_the_octets_behind_a_chunk(self):
        head = octets_of(self.OK + "transfer-encoding: chunked\n\n1\nx")
        for octet in (0, 10, 48, 120, 255):
            self.assert_fault(len(head), "answer", head + [octet])
        for octet in (0, 13, 48, 255):
            self.assert_fault(len(head) + 1, "answer", head + [13, octet])

    def test_the_line_behind_the_last_chunk(self):
        for chunks in ("0\n", "1\nx\n000\n"):
            head = octets_of(self.OK + "transfer-encoding: chunked\n\n" + chunks)
            for line in ("a: b", " ", "0", "x" * 3000):
                self.assert_fault(len(head), "answer", head + octets_of(line + "\n"))

    def test_which_fault_is_told(self):
        """The line is looked at before what it says."""
        self.assert_fault(5, "request", raw("get /\x00 x") + [13, 10])
        self.assert_fault(6, "request", raw("get /x\n"))
        head = octets_of(self.GET)
        self.assert_fault(len(head) + 3, "request", head + raw("a b\n"))
        lines = octets_of(self.GET + "h: v\n" * 40)
        self.assert_fault(len(lines) + 4, "request", lines + raw("a: b\n"))
        head = octets_of(self.GET + "content-length: 9999999999\n")
        self.assert_fault(len(head), "request", head + raw("\n"))
        head = octets_of(self.GET + "content-length: 1000001\ncontent-length: 1\n")
        self.assert_fault(len(head), "request", head + octets_of("\n"))
        # Lengths are looked at only when all headers are there.
        head = octets_of(self.GET + "content-length: x\n")
        self.assert_fault(len(head), "request", head + octets_of("wrong\n"))


class BoundsTest(HttpTest):
    """Point 18.4: bodies at the bound of 1000000 octets, which take no time that grows out of bounds."""

    BODY = [at % 251 for at in range(1000000)]

    def setUp(self):
        self.began = time.process_time()

    def tearDown(self):
        self.assertLess(time.process_time() - self.began, 100)

    def read_both_ways(self, kind, octets):
        """Returns the events of octets that are fed whole; fed octet by octet, the same ones are told."""
        events = Reader(kind).feed(octets)
        reader = Reader(kind)
        told = [(at, event) for at in range(len(octets)) for event in reader.feed(octets[at:at + 1])]
        self.assertTrue(events == [event for _, event in told])
        self.assertEqual(len(octets) - 1, told[-1][0])
        return events

    def test_a_length_of_1000000(self):
        request = Request("PUT", "/", (), self.BODY)
        self.assertTrue([("message", request)] == self.read_both_ways("request", write_message(request)))

    def test_chunks_of_1000000_octets(self):
        answer = Answer(200, (), self.BODY)
        for chunks in ([1000000], [999999, 1], [1] * 100 + [999900], [10] * 100000):
            octets = write_message(answer, chunks)
            self.assertTrue([("message", answer)] == Reader("answer").feed(octets))
        self.assertTrue([("message", answer)] == self.read_both_ways("answer", write_message(answer, [500000, 500000])))
        self.assertTrue([("message", answer)] == Reader("answer").feed(write_message(answer, [1] * 1000000)))

    def test_chunks_of_more_than_1000000_octets(self):
        octets = write_message(Answer(200, (), self.BODY), [999999, 1])[:-5]
        for line, is_fault in (("1", True), ("0", False), ("f4240", True), ("fffffff", True)):
            events = Reader("answer").feed(octets + octets_of(line + "\n"))
            self.assertEqual([("fault", len(octets))] if is_fault else [], events)
        head = octets_of("HTTP/1.1 200 OK\ntransfer-encoding: chunked\n\n")
        self.assertEqual([], Reader("answer").feed(head + octets_of("f4240\n")))
        self.assertEqual([("fault", len(head))], Reader("answer").feed(head + octets_of("f4241\n")))
        more = head + octets_of("1\nx\n")
        self.assertEqual([("fault", len(more))], Reader("answer").feed(more + octets_of("f4240\n")))
        self.assertEqual([], Reader("answer").feed(more + octets_of("f423f\n")))


class PiecesTest(HttpTest):
    """Point 18.5."""

    def test_cuts(self):
        octets = octets_of("PUT /x HTTP/1.1\ncontent-length: 3\n\nabc")
        chunked = octets_of("PUT /x HTTP/1.1\ntransfer-encoding: chunked\n\n2\nab\n1\nc\n0\n\n")
        for message in (octets, chunked):
            for before in ([], octets, chunked):
                for length in range(len(message) + 1):
                    reader = Reader("request")
                    events = reader.feed(before + message[:length])
                    self.assertEqual(bool(before) + (length == len(message)), len(events))
                    place = len(before) + length
                    cut = [("cut", place)] if 0 < length < len(message) else []
                    self.assert_gives(cut, reader.finish)
                    self.assert_gives(cut, reader.finish)
        self.assert_gives([], Reader("answer").finish)
        reader = Reader("answer")
        reader.feed([])
        self.assert_gives([], reader.finish)

    def test_several_messages_in_one_piece(self):
        messages = [Request("GET", f"/{at}", (), [at] * at) for at in range(6)]
        octets = [octet for message in messages for octet in write_message(message)]
        self.assert_events([("message", message) for message in messages], "request", octets)
        self.assert_events([("message", message) for message in messages] + [("fault", len(octets))], "request", octets + [10])

    def test_octets_behind_a_fault(self):
        good = octets_of("GET / HTTP/1.1\n\n")
        self.assert_events([("message", Request("GET", "/", (), [])), ("fault", len(good))], "request", good + [10] + good)

    def test_damaged_messages_by_chance(self):
        chosen = random.Random(181)
        told = {"message": 0, "fault": 0, "cut": 0}
        for _ in range(3000):
            kind = chosen.choice(["request", "answer"])
            octets = []
            for _ in range(chosen.randrange(1, 4)):
                message = some_message(chosen)
                if isinstance(message, Request) == (kind == "request") or chosen.randrange(10) == 0:
                    octets += write_message(message, chosen.choice([None, some_lengths(chosen, len(message.body))]))
            for _ in range(chosen.randrange(3)):
                at = chosen.randrange(len(octets) + 1)
                word = chosen.randrange(4)
                if word == 0:
                    octets[at:at + 1] = [chosen.choice([10, 13, 32, 37, 48, 58, 65, 97, 200])]
                elif word == 1:
                    del octets[at:at + chosen.choice([1, 2, 10])]
                elif word == 2:
                    octets[at:at] = octets_of(chosen.choice([" ", "\n", "0", "1", "a: b\n", ":", "content-length: 0\n",
                                                             "Transfer-Encoding:chunked\n"]))
                else:
                    del octets[at:]
            self.assert_alike(kind, octets, chosen)
            events, cut = read_all(kind, octets)
            for _, event in events:
                told[event[0]] += 1
            told["cut"] += len(cut)
        self.assertGreater(min(told.values()), 500)


if __name__ == "__main__":
    unittest.main()
