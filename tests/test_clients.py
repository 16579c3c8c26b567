"""Chapter "Clients": points 22.1 to 22.4."""

import random
import unittest

from formkeeper.clients import Client
from formkeeper.disk import Disk
from formkeeper.http import Answer, Reader, write_message
from formkeeper.keeper import Keeper
from formkeeper.lines import Line
from formkeeper.registry import Registry
from formkeeper.service import Service, Session, answer_octets, command_of, request_of
from tests.some_commands import CommandMaker
from tests.support import ProgramTest

INT, LONG = ("register", "log", '"int"', ()), ("register", "log", '"long"', ())
SUBJECTS, SCHEMA, OTHER_SCHEMA = ("subjects",), ("schema", 1), ("schema", 2)
WHOLE = ("done", " text", (("F", "f", 1),), "whole")
NO_SCHEMA = ("refused", "no schema")


class NoSession:
    """Stands in the place of a session: the tests themselves answer."""

    def receive(self, octets):
        return []


def octets_of(*answers):
    return [octet for answer in answers for octet in write_message(answer_octets(answer))]


class ClientsTest(ProgramTest):

    def setUp(self):
        self.client = Client("ann")
        self.line = None
        self.reader = None

    def connect(self):
        self.line = Line(NoSession())
        self.reader = Reader("request")
        self.assertIsNone(self.client.connect(self.line))

    def sent(self):
        """Returns what was sent on the line since the last call, as `command_of` tells it."""
        octets = list(self.line.to_session)
        self.line.deliver(len(octets))
        events = self.reader.feed(octets)
        self.assertEqual([], self.reader.finish())
        self.assertEqual(["message"] * len(events), [event[0] for event in events])
        return [command_of(event[1]) for event in events]

    def arrive(self, octets, count=None):
        """Octets arrive at the client."""
        self.line.to_client.extend(octets)
        self.assert_gives(len(octets), self.client.receive, len(octets) if count is None else count)

    def assert_state(self, current, answers):
        self.assert_gives(current, self.client.current)
        self.assertEqual(answers, self.client.answers)


class TasksTest(ClientsTest):
    """Points 22.1 and 22.2."""

    def test_a_new_client(self):
        self.assertEqual(("ann", [], None), (self.client.name, self.client.answers, self.client.line))
        self.assert_state(None, [])
        self.assert_gives(None, self.client.whole, 1)
        self.assert_gives(0, self.client.receive, 10)
        self.assert_gives(None, self.client.leave)

    def test_tasks_added_without_a_line(self):
        self.assert_gives(None, self.client.add, SUBJECTS)
        self.client.add(INT)
        self.assert_state(SUBJECTS, [])
        self.connect()
        self.assertIs(self.line, self.client.line)
        self.assertEqual([("", 0, SUBJECTS)], self.sent())
        self.assert_state(SUBJECTS, [])

    def test_tasks_added_with_a_line(self):
        self.connect()
        self.assertEqual([], self.sent())
        self.client.add(INT)
        self.assertEqual([("ann", 1, INT)], self.sent())
        self.client.add(SUBJECTS)
        self.client.add(LONG)
        self.assertEqual([], self.sent())
        self.assert_state(INT, [])
        self.arrive(octets_of(("done", 1, 1)))
        self.assert_state(SUBJECTS, [("done", 1, 1)])
        self.assertEqual([("", 0, SUBJECTS)], self.sent())
        self.arrive(octets_of(("done", ("log",))))
        self.assertEqual([("ann", 2, LONG)], self.sent())
        self.arrive(octets_of(("refused", "old")))
        self.assertEqual([], self.sent())
        self.assert_state(None, [("done", 1, 1), ("done", ("log",)), ("refused", "old")])
        self.client.add(SUBJECTS)
        self.assertEqual([("", 0, SUBJECTS)], self.sent())

    def test_the_request_octet_by_octet(self):
        self.connect()
        for command, who in ((INT, ("ann", 1)), (SUBJECTS, ()), (("set mode", None, "x"), ("ann", 2)),
                             (("remove version", "a b", "latest", False), ("ann", 3)), (("remove subject", "s", True), ("ann", 4))):
            self.client.add(command)
            self.assertEqual(write_message(request_of(command, *who)), self.line.to_session)
            self.line.deliver(10000)
            self.arrive(octets_of(("done",)))

    def test_numbers_of_changes(self):
        """They are counted in the order of the tasks; those that ask have none."""
        commands = [SUBJECTS, INT, ("mode", None), LONG, ("set mode", "s", "none"), SUBJECTS, ("remove version", "s", 1, True),
                    ("lookup", "s", "x", ()), ("remove subject", "s", False), ("fits", "s", "all", "x", ())]
        for command in commands[:6]:
            self.client.add(command)
        self.connect()
        found = self.sent()
        for command in commands[6:]:
            self.client.add(command)
        for _ in commands:
            self.arrive(octets_of(("done",)))
            found += self.sent()
        self.assertEqual(commands, [each[2] for each in found])
        self.assertEqual([0, 1, 0, 2, 3, 0, 4, 0, 5, 0], [each[1] for each in found])
        self.assertEqual(["ann" if each[1] else "" for each in found], [each[0] for each in found])

    def test_names_that_are_escaped(self):
        for name in ("a b", "~", "\n" * 60, "x" * 60):
            self.client = Client(name)
            self.connect()
            self.client.add(INT)
            self.assertEqual([(name, 1, INT)], self.sent())

    def test_answers_in_any_pieces(self):
        octets = octets_of(("done", 1, 1))
        for length in (1, 2, 7, len(octets) - 1, len(octets), len(octets) + 5):
            self.setUp()
            self.connect()
            self.client.add(INT)
            self.sent()
            self.line.to_client.extend(octets)
            arrived = 0
            while arrived < len(octets):
                self.assert_state(INT, [])
                count = min(length, len(octets) - arrived)
                self.assert_gives(count, self.client.receive, length)
                arrived += count
            self.assert_state(None, [("done", 1, 1)])
            self.assert_gives(0, self.client.receive, length)

    def test_answers_in_chunks(self):
        self.connect()
        self.client.add(INT)
        answer = answer_octets(("done", 1, 1))
        self.arrive(write_message(Answer(200, (("x", "y"),), answer.body), [1] * len(answer.body)))
        self.assert_state(None, [("done", 1, 1)])

    def test_several_answers_together(self):
        """They are taken in order, each for the task that is the current one then."""
        for command in (INT, SUBJECTS, LONG, ("mode", None)):
            self.client.add(command)
        self.connect()
        self.assertEqual([("ann", 1, INT)], self.sent())
        self.arrive(octets_of(("done", 1, 1), ("done", ("log",)), ("refused", "old")))
        self.assert_state(("mode", None), [("done", 1, 1), ("done", ("log",)), ("refused", "old")])
        self.assertEqual([("", 0, SUBJECTS), ("ann", 2, LONG), ("", 0, ("mode", None))], self.sent())
        self.assertIs(self.line, self.client.line)

    def test_the_count_is_the_most(self):
        self.connect()
        self.client.add(INT)
        self.client.add(LONG)
        first, second = octets_of(("done", 1, 1)), octets_of(("done", 2, 2))
        self.line.to_client.extend(first + second)
        self.assert_gives(len(first), self.client.receive, len(first))
        self.assert_state(LONG, [("done", 1, 1)])
        self.assert_gives(len(second), self.client.receive, 10000)
        self.assert_state(None, [("done", 1, 1), ("done", 2, 2)])

    def test_an_answer_that_is_lost_with_its_line(self):
        keeper = Keeper(Disk())
        self.client.add(INT)
        self.client.add(LONG)
        for count in (0, 1, 50, 10000):
            line = Line(Session(Service(keeper)))
            before = self.client.line
            self.client.connect(line)
            self.assertTrue(before is None or before.is_cut and before.to_client == [])
            line.deliver(count)
            self.client.receive(30)
        self.client.receive(10000)
        line.deliver(10000)
        self.client.receive(10000)
        self.assert_state(None, [("done", 1, 1), ("done", 2, 2)])
        self.assertEqual((2, ("done", 2, 2)), keeper.registry().remembered("ann"))

    def test_a_new_line_begins_anew(self):
        """Octets of the answers on the old line count no more, and the request is sent again with its number."""
        self.client.add(SUBJECTS)
        self.client.add(INT)
        self.connect()
        self.arrive(octets_of(("done", ())))
        self.assertEqual([("", 0, SUBJECTS), ("ann", 1, INT)], self.sent())
        for _ in range(3):
            octets = octets_of(("done", 5, 5))
            self.arrive(octets[:40])
            old = self.line
            self.connect()
            self.assertIs(True, old.is_cut)
            self.assertEqual([("ann", 1, INT)], self.sent())
        self.arrive(octets_of(("done", 1, 1)))
        self.assert_state(None, [("done", ()), ("done", 1, 1)])

    def test_leaving(self):
        self.client.add(INT)
        self.connect()
        line = self.line
        self.line.to_client.extend([72, 84])
        self.assert_gives(None, self.client.leave)
        self.assertIsNone(self.client.line)
        self.assertEqual((True, []), (line.is_cut, line.to_client))
        self.assertNotEqual([], line.to_session)
        self.client.leave()
        self.assert_gives(0, self.client.receive, 10)
        self.client.add(LONG)
        self.assert_state(INT, [])
        self.connect()
        self.assertEqual([("ann", 1, INT)], self.sent())

    def test_a_line_that_is_cut(self):
        """The client does not know: it has the line, but nothing arrives on it any more."""
        self.connect()
        self.line.cut()
        self.client.add(INT)
        self.assertIs(self.line, self.client.line)
        self.assertEqual([], self.line.to_session)
        self.assert_gives(0, self.client.receive, 10)
        self.connect()
        self.assertEqual([("ann", 1, INT)], self.sent())


class KeptSchemasTest(ClientsTest):
    """Point 22.3."""

    def keep(self, number=1, answer=WHOLE):
        """Lets the client ask for a schema."""
        self.client.add(("schema", number))
        if self.client.line is None:
            self.connect()
        self.assertEqual([("", 0, ("schema", number))], self.sent())
        self.arrive(octets_of(answer))
        self.assertEqual(answer, self.client.answers[-1])
        self.assertIsNone(self.client.current())

    def test_a_schema_that_is_kept(self):
        self.assert_gives(None, self.client.whole, 1)
        self.keep()
        self.assert_gives("whole", self.client.whole, 1)
        self.assert_gives(None, self.client.whole, 2)
        self.client.add(SCHEMA)
        self.assert_state(None, [WHOLE, WHOLE])
        self.client.add(SCHEMA)
        self.assertEqual([], self.sent())
        self.assert_state(None, [WHOLE] * 3)
        self.client.add(OTHER_SCHEMA)
        self.assertEqual([("", 0, OTHER_SCHEMA)], self.sent())

    def test_without_a_line(self):
        self.keep()
        self.client.leave()
        self.client.add(SCHEMA)
        self.assert_state(None, [WHOLE, WHOLE])
        self.client.add(SUBJECTS)
        self.client.add(SCHEMA)
        self.assert_state(SUBJECTS, [WHOLE, WHOLE])
        self.connect()
        self.assertEqual([("", 0, SUBJECTS)], self.sent())
        self.arrive(octets_of(("done", ())))
        self.assert_state(None, [WHOLE, WHOLE, ("done", ()), WHOLE])

    def test_behind_other_tasks_and_several_in_a_row(self):
        self.keep()
        for command in (INT, SCHEMA, SCHEMA, SUBJECTS, OTHER_SCHEMA, OTHER_SCHEMA, SCHEMA, LONG):
            self.client.add(command)
        self.assertEqual([("ann", 1, INT)], self.sent())
        self.arrive(octets_of(("done", 1, 1)))
        self.assert_state(SUBJECTS, [WHOLE, ("done", 1, 1), WHOLE, WHOLE])
        self.assertEqual([("", 0, SUBJECTS)], self.sent())
        self.arrive(octets_of(("done", ())))
        self.assertEqual([("", 0, OTHER_SCHEMA)], self.sent())
        other = ("done", "x", (), "y")
        self.arrive(octets_of(other))
        self.assertEqual([("ann", 2, LONG)], self.sent())
        self.assert_state(LONG, [WHOLE, ("done", 1, 1), WHOLE, WHOLE, ("done", ()), other, other, WHOLE])
        self.assertEqual(("whole", "y"), (self.client.whole(1), self.client.whole(2)))

    def test_a_schema_asked_for_twice_before_it_is_kept(self):
        self.client.add(SCHEMA)
        self.client.add(SCHEMA)
        self.client.add(SCHEMA)
        self.connect()
        self.arrive(octets_of(WHOLE))
        self.assertEqual([("", 0, SCHEMA)], self.sent())
        self.assert_state(None, [WHOLE] * 3)

    def test_what_is_not_kept(self):
        for answer in (NO_SCHEMA, ("done",), ("done", "x", ()), ("done", "x", (), "y", "z"), ("refused", "a", "b", "c")):
            self.keep(1, answer)
            self.assertIsNone(self.client.whole(1))
        for command in (("version", "log", 1), SUBJECTS, ("mode", None)):
            self.client.add(command)
            self.sent()
            self.arrive(octets_of(("done", "x", (), "y")))
            self.assertIsNone(self.client.whole(1))
        self.keep()
        self.assertEqual("whole", self.client.whole(1))

    def test_clients_keep_for_themselves(self):
        self.keep()
        self.assertIsNone(Client("ann").whole(1))


class WrongAnswersTest(ClientsTest):
    """Point 22.4."""

    def assert_leaves(self, octets, command=INT):
        """The octets make the client leave its line, octet by octet and whole; the task is not answered by them."""
        for lengths in ([len(octets)], [1] * len(octets)):
            self.setUp()
            self.client.add(command)
            self.connect()
            line = self.line
            line.to_client.extend(octets)
            for length in lengths:
                self.assertIs(line, self.client.line)
                self.assert_gives(length, self.client.receive, length)
            self.assertIsNone(self.client.line)
            self.assertEqual((True, []), (line.is_cut, line.to_client))
            self.assert_state(command, [])
            self.connect()
            self.assertEqual(1, len(self.sent()))
            self.arrive(octets_of(("done", 1, 1)))
            self.assert_state(None, [("done", 1, 1)])

    def answer(self, status, text):
        return write_message(Answer(status, (), text if isinstance(text, list) else [ord(each) for each in text]))

    def test_faults(self):
        for octets in ([10], [ord(each) for each in "GET / HTTP/1.1\r\n"], [120] * 4000,
                       [ord(each) for each in "HTTP/1.1 200 OK\r\ncontent-length: x\r\n\r\n"]):
            self.assert_leaves(octets)

    def test_a_status_that_does_not_fit(self):
        for text, right in (
            ('["done",1,1]', 200), ('["done"]', 200), ('["refused","old"]', 409), ('["refused","not fitting",1,"back",[0]]', 409),
            ('["refused","in use","a",1]', 409), ('["refused","standing",1]', 409), ('["refused","no subject"]', 404),
            ('["refused","no version"]', 404), ('["refused","no schema"]', 404), ('["refused","bad mode"]', 400),
            ('["refused","bad http"]', 400), ('["refused","whatever"]', 400), ('["refused",""]', 400), ('["refused","done"]', 400),
        ):
            for status in (100, 199, 200, 201, 299, 300, 399, 400, 401, 404, 409, 410, 500, 599):
                if status != right:
                    self.assert_leaves(self.answer(status, text))
            self.setUp()
            self.client.add(INT)
            self.connect()
            self.arrive(self.answer(right, text))
            self.assertEqual(1, len(self.client.answers))
            self.assertIs(self.line, self.client.line)

    def test_bodies_that_are_no_answers(self):
        for text in (
            "", " ", "null", "1", '"done"', "{}", '{"done":1}', '{"0":"done"}', "[]", "[1]", "[null]", '["Done"]', '["done "]', '[["done"]]',
            '["do"]', '["refused"]', '["refused",1]', '["refused",null]', '["refused",["old"]]', '["refused",true]', '["refused",{}]',
            '["Refused","old"]', '["done"', '["done"]]', '["done"] x', '["done",]', "done", '["done","\\u0025"]', '[true]',
            [91, 34, 100, 37, 34, 93], [200], [91, 34, 100, 111, 110, 101, 34, 93, 13, 10], [0],
        ):
            for status in (200, 400):
                self.assert_leaves(self.answer(status, text))
        for text, status in (('["x","old"]', 409), ('["","no subject"]', 404), ('[null,"x"]', 400), ('["done ","x"]', 400)):
            self.assert_leaves(self.answer(status, text))

    def test_headers_and_blanks_are_not_looked_at(self):
        self.client.add(INT)
        self.connect()
        body = [ord(each) for each in ' [ "done" ,\n1 , [ 2 ] ]\t']
        self.arrive(write_message(Answer(200, (("content-type", "text/html"), ("x", "y")), body)))
        self.assert_state(None, [("done", 1, (2,))])

    def test_an_answer_without_a_current_task(self):
        self.connect()
        line = self.line
        self.arrive(octets_of(("done", 1, 1)))
        self.assertIsNone(self.client.line)
        self.assertIs(True, line.is_cut)
        self.assert_state(None, [])

    def test_an_answer_too_many(self):
        """The first one is the answer of the last task; no task is answered by the second one."""
        self.client.add(SUBJECTS)
        self.connect()
        self.arrive(octets_of(("done", ()), ("done", 1, 1)))
        self.assert_state(None, [("done", ())])
        self.assertIsNone(self.client.line)
        self.assertIs(True, self.line.is_cut)

    def test_what_stands_behind_a_wrong_answer_is_not_taken(self):
        for wrong in (self.answer(201, '["done"]'), self.answer(200, "x"), [10]):
            self.setUp()
            self.client.add(SUBJECTS)
            self.client.add(INT)
            self.connect()
            self.arrive(octets_of(("done", ())) + wrong + octets_of(("done", 1, 1)))
            self.assert_state(INT, [("done", ())])
            self.assertIsNone(self.client.line)

    def test_a_schema_of_a_wrong_answer_is_not_kept(self):
        self.client.add(SCHEMA)
        self.connect()
        self.arrive(self.answer(201, '["done","x",[],"y"]'))
        self.assert_state(SCHEMA, [])
        self.assertIsNone(self.client.whole(1))

    def test_parts_of_an_answer_are_no_fault(self):
        self.client.add(INT)
        self.connect()
        self.arrive(octets_of(("done", 1, 1))[:-1])
        self.assertIs(self.line, self.client.line)
        self.assert_state(INT, [])


class TogetherTest(ClientsTest):

    def test_commands_by_chance_over_lines_that_fail(self):
        """Each change is made once, and answered as a registry answers it that is asked the same."""
        chosen = random.Random(220)
        for _ in range(25):
            keeper = Keeper(Disk(), limit=chosen.choice([1, 3, 100]))
            registry = Registry()
            maker = CommandMaker(chosen, registry)
            client = Client("ann")
            expected = []
            number = 0
            for _ in range(20):
                command = maker.changing() if chosen.randrange(3) else maker.asking()
                if command[0] in ("register", "set mode", "remove version", "remove subject"):
                    number += 1
                    expected.append(registry.change("ann", number, command))
                else:
                    expected.append(registry.ask(command))
                client.add(command)
            turns = 0
            while client.current() is not None:
                turns += 1
                if client.line is None or chosen.randrange(12) == 0:
                    client.connect(Line(Session(Service(keeper))))
                client.line.deliver(chosen.randrange(1, 200))
                client.receive(chosen.randrange(1, 200))
            self.assertEqual(expected, client.answers)
            self.assertGreater(turns, 20)


if __name__ == "__main__":
    unittest.main()
