"""Chapter "Worlds": points 23.1 to 23.5."""

import copy
import random
import unittest

from formkeeper.clients import Client
from formkeeper.disk import Disk
from formkeeper.http import write_message
from formkeeper.keeper import Keeper
from formkeeper.lines import Line
from formkeeper.registry import Registry
from formkeeper.service import Session, answer_octets, request_of
from formkeeper.states import write_change, write_state
from formkeeper.worlds import World
from tests.disks import files_of, log_octets, snapshot_octets
from tests.some_commands import CommandMaker
from tests.support import ProgramTest, strictly

INT, LONG = ("register", "log", '"int"', ()), ("register", "log", '"long"', ())
MODE, SUBJECTS, VERSIONS = ("set mode", None, "none"), ("subjects",), ("versions", "log")
CHANGING = ("register", "set mode", "remove version", "remove subject")


def shown(world):
    """Returns all that a world shows."""
    lines = [(line.to_session, line.to_client, line.is_cut, line.session.over) for line in world.lines]
    clients = [(client.name, client.answers, client.current(), client.line and world.lines.index(client.line))
               for client in world.clients]
    state = None if world.keeper is None else write_state(world.keeper.registry())
    return copy.deepcopy((files_of(world.disk), state, lines, clients, world.history, world.disk.allowance))


class WorldTest(ProgramTest):

    def setUp(self):
        self.world = World(["ann", "ben"])

    def make(self, *moves):
        """Performs moves that are possible."""
        for move in moves:
            before = copy.deepcopy(move)
            self.assertIs(True, self.world.move(move), move)
            self.assertEqual(before, move)

    def assert_impossible(self, *moves):
        """The moves are not possible, and nothing changes."""
        for move in moves:
            before = shown(self.world)
            self.assertIs(False, self.world.move(move), move)
            self.assertEqual(before, shown(self.world), move)

    def line(self, number=0):
        return self.world.lines[number]

    def carry(self, number, client):
        """Lets all arrive that is on its way on the line of a client, once in each direction."""
        self.make(("deliver", number, 100000), ("receive", client, 100000))

    def assert_history(self, *rows):
        self.assertEqual(strictly(list(rows)), strictly(self.world.history))

    def assert_down(self):
        """The keeper is down, all lines are cut, and nothing is on its way on them."""
        self.assertIsNone(self.world.keeper)
        for line in self.world.lines:
            self.assertEqual(([], [], True), (line.to_session, line.to_client, line.is_cut))


class MovesTest(WorldTest):
    """Point 23.1."""

    def test_a_new_world(self):
        names = ["ann", "ben", "c c"]
        world = self.called(World, names)
        names.clear()
        self.assertEqual((Disk, Keeper), (world.disk.__class__, world.keeper.__class__))
        self.assertEqual(["ann", "ben", "c c"], [client.name for client in world.clients])
        self.assertEqual([Client] * 3, [client.__class__ for client in world.clients])
        self.assertEqual(([], []), (world.lines, world.history))
        self.assertEqual({"log.0": []}, files_of(world.disk))
        self.assertEqual(("done", ()), world.keeper.ask(SUBJECTS))
        self.assertEqual([], World([]).clients)

    def test_the_limit(self):
        for limit in (1, 2):
            world = World(["ann"], limit=limit)
            for number in range(3):
                world.move(("task", 0, ("set mode", f"s{number}", "none")))
            world.settle()
            self.assertEqual([f"log.{3 // limit}", f"snap.{3 // limit}"], world.disk.names())
            world.move(("lose", []))
            world.move(("start",))
            world.move(("task", 0, ("set mode", "s3", "none")))
            world.settle()
            self.assertEqual([f"log.{4 // limit}", f"snap.{4 // limit}"], world.disk.names())
        world = World(["ann"])
        for number in range(99):
            world.keeper.change("x", number + 1, MODE)
        self.assertEqual(["log.0"], world.disk.names())
        world.keeper.change("x", 100, MODE)
        self.assertEqual(["log.1", "snap.1"], world.disk.names())

    def test_task(self):
        self.make(("task", 1, INT), ("task", 1, SUBJECTS))
        self.assertEqual((None, INT), (self.world.clients[0].current(), self.world.clients[1].current()))
        self.make(("lose", []), ("task", 0, LONG))
        self.assertEqual(LONG, self.world.clients[0].current())
        self.assert_impossible(("task", 2, INT), ("task", -1, INT), ("task", 99, INT))

    def test_connect(self):
        self.make(("task", 0, INT), ("connect", 0))
        self.assertEqual((Line, Session), (self.line().__class__, self.line().session.__class__))
        self.assertIs(self.line(), self.world.clients[0].line)
        self.assertEqual(write_message(request_of(INT, "ann", 1)), self.line().to_session)
        self.make(("connect", 1), ("connect", 0))
        self.assertEqual([True, False, False], [line.is_cut for line in self.world.lines])
        self.assertIs(self.line(1), self.world.clients[1].line)
        self.assertIs(self.line(2), self.world.clients[0].line)
        self.assertIsNot(self.line(1).session, self.line(2).session)
        self.assert_impossible(("connect", 2), ("connect", -1))
        self.make(("lose", []))
        self.assert_impossible(("connect", 0), ("connect", 1), ("connect", 2))

    def test_leave(self):
        self.assert_impossible(("leave", 0), ("leave", 1), ("leave", 2), ("leave", -1))
        self.make(("connect", 0), ("leave", 0))
        self.assertIsNone(self.world.clients[0].line)
        self.assertIs(True, self.line().is_cut)
        self.assert_impossible(("leave", 0))
        # A client has its line also when the keeper has gone down.
        self.make(("connect", 0), ("lose", []), ("leave", 0))
        self.assert_impossible(("leave", 0))

    def test_deliver(self):
        self.assert_impossible(("deliver", 0, 1), ("deliver", -1, 1), ("deliver", 5, 1))
        self.make(("connect", 1))
        self.assert_impossible(("deliver", 0, 1), ("deliver", -1, 1), ("deliver", 1, 1))
        self.make(("task", 1, SUBJECTS))
        octets = write_message(request_of(SUBJECTS))
        self.assertEqual(octets, self.line().to_session)
        self.assert_impossible(("deliver", -1, 1), ("deliver", 1, 1))
        self.make(("deliver", 0, 10))
        self.assertEqual((octets[10:], []), (self.line().to_session, self.line().to_client))
        self.make(("deliver", 0, 1000))
        self.assertEqual(([], write_message(answer_octets(("done", ())))), (self.line().to_session, self.line().to_client))
        self.assert_impossible(("deliver", 0, 1))

    def test_deliver_on_a_line_that_was_left(self):
        self.make(("task", 0, INT), ("task", 0, VERSIONS), ("connect", 0), ("leave", 0), ("deliver", 0, 20), ("deliver", 0, 1000))
        self.assertEqual([], self.line().to_client)
        self.assert_history(("ann", 1, INT, ("done", 1, 1)))
        self.assert_impossible(("deliver", 0, 1), ("receive", 0, 1))
        self.assertEqual(INT, self.world.clients[0].current())

    def test_receive(self):
        self.assert_impossible(("receive", 0, 1), ("receive", -1, 1), ("receive", 2, 1))
        self.make(("task", 0, SUBJECTS), ("connect", 0))
        self.assert_impossible(("receive", 0, 1), ("receive", 1, 1))
        self.make(("deliver", 0, 1000))
        many = len(self.line().to_client)
        self.assert_impossible(("receive", 1, 1))
        self.make(("receive", 0, many - 1))
        self.assertEqual([], self.world.clients[0].answers)
        self.make(("receive", 0, 5))
        self.assertEqual([("done", ())], self.world.clients[0].answers)
        self.assert_impossible(("receive", 0, 1))

    def test_receive_counts_only_on_the_line_of_the_client(self):
        self.make(("task", 0, SUBJECTS), ("connect", 0), ("deliver", 0, 1000), ("leave", 0))
        self.assert_impossible(("receive", 0, 1))
        self.make(("connect", 0))
        self.assert_impossible(("receive", 0, 1))

    def test_allow(self):
        self.make(("allow", 2), ("task", 0, INT), ("connect", 0), ("deliver", 0, 1000))
        self.assertEqual(0, self.world.disk.allowance)
        self.make(("allow", None), ("allow", 0), ("lose", []), ("allow", 3))
        self.assertEqual(3, self.world.disk.allowance)

    def test_lose(self):
        self.make(("task", 0, INT), ("connect", 0), ("connect", 1), ("deliver", 0, 1000), ("task", 1, SUBJECTS), ("allow", 5))
        self.assertTrue(self.line(0).to_client and self.line(1).to_session)
        choices = [1, 2]
        self.make(("lose", choices))
        self.assertEqual([1, 2], choices)
        self.assert_down()
        self.assertIsNone(self.world.disk.allowance)
        self.assertEqual(log_octets(1, write_change("ann", 1, INT)), self.world.disk.read("log.0"))
        self.assert_impossible(("deliver", 0, 1), ("deliver", 1, 1), ("receive", 0, 1), ("connect", 0))
        self.make(("lose", []), ("lose", [3]))
        self.assert_down()

    def test_lose_with_choices(self):
        """The octets that are not kept stay as the choices tell."""
        record = log_octets(1, write_change("ann", 1, INT))
        for stay in (0, 1, 30, len(record)):
            self.setUp()
            self.make(("task", 0, INT), ("connect", 0), ("allow", 1), ("deliver", 0, 1000))
            self.assert_down()
            self.assertEqual(record, self.world.disk.read("log.0"))
            self.make(("lose", [0, stay]))
            self.assertEqual(record[:stay], self.world.disk.read("log.0"))

    def test_start(self):
        self.assert_impossible(("start",))
        self.make(("lose", []), ("start",))
        self.assertIs(Keeper, self.world.keeper.__class__)
        self.assert_impossible(("start",))
        self.make(("lose", []), ("lose", []), ("start",))
        self.assert_impossible(("start",))

    def test_start_without_a_lost_power(self):
        """When PowerLost was raised, the keeper is down; but the disk must lose its power before it is opened."""
        self.make(("task", 0, INT), ("connect", 0), ("allow", 0), ("deliver", 0, 1000))
        self.assert_down()
        self.assert_impossible(("start",), ("connect", 0))
        self.make(("allow", None))
        self.assert_impossible(("start",))
        self.make(("lose", []), ("start",), ("connect", 0))
        self.make(("allow", 0), ("deliver", 1, 1000))
        self.assert_down()
        self.assert_impossible(("start",))

    def test_moves_behind_a_start(self):
        self.make(("task", 0, INT), ("connect", 0), ("lose", []), ("start",))
        self.assert_impossible(("deliver", 0, 1), ("receive", 0, 1))
        self.make(("connect", 0), ("deliver", 1, 1000), ("receive", 0, 1000))
        self.assertEqual([("done", 1, 1)], self.world.clients[0].answers)


class PowerTest(WorldTest):
    """Point 23.2."""

    def test_power_lost_in_deliver(self):
        self.make(("task", 0, INT), ("task", 1, SUBJECTS), ("connect", 0), ("connect", 1), ("deliver", 1, 1000), ("task", 0, LONG))
        for allowed in (0, 1):
            world = copy.deepcopy(self.world)
            self.make(("allow", allowed), ("deliver", 0, 1000))
            self.assert_down()
            self.assert_history(("", 0, SUBJECTS, ("done", ())))
            self.assert_impossible(("receive", 1, 1), ("deliver", 0, 1), ("connect", 0), ("start",))
            self.assertEqual([], self.world.clients[1].answers)
            self.world = world

    def test_power_lost_before_all_octets_have_arrived(self):
        self.make(("task", 0, INT), ("connect", 0), ("allow", 0))
        many = len(self.line().to_session)
        self.make(("deliver", 0, many - 1))
        self.assertIsNotNone(self.world.keeper)
        self.line().send([71, 69, 84])
        self.make(("deliver", 0, 1))
        self.assert_down()

    def test_power_lost_in_compacting(self):
        for allowed in range(2, 11):
            self.world = World(["ann"], limit=1)
            self.make(("task", 0, INT), ("connect", 0), ("allow", allowed), ("deliver", 0, 1000))
            self.assert_down()
            self.make(("lose", []), ("start",))
            self.assert_history(("ann", 1, INT, ("done", 1, 1)))
            self.make(("connect", 0))
            self.carry(1, 0)
            self.assertEqual([("done", 1, 1)], self.world.clients[0].answers)
            self.assert_history(("ann", 1, INT, ("done", 1, 1)))

    def test_power_lost_in_start(self):
        """The move was possible, and the keeper stays down; the disk must lose its power again."""
        for allowed in range(2):
            self.setUp()
            self.make(("task", 0, INT), ("connect", 0), ("lose", []), ("allow", allowed), ("start",))
            self.assert_down()
            self.assert_impossible(("start",), ("connect", 0))
            self.make(("allow", None))
            self.assert_impossible(("start",))
            self.make(("lose", []), ("start",))
            self.assertIs(Keeper, self.world.keeper.__class__)
        self.setUp()
        self.make(("lose", []), ("allow", 2), ("start",))
        self.assertIs(Keeper, self.world.keeper.__class__)

    def test_other_moves_use_no_operation(self):
        self.make(("allow", 0), ("task", 0, SUBJECTS), ("connect", 0), ("deliver", 0, 1000), ("receive", 0, 1000), ("leave", 0))
        self.assertEqual([("done", ())], self.world.clients[0].answers)


class HistoryTest(WorldTest):
    """Point 23.3."""

    def test_the_history_behind_each_move(self):
        self.make(("task", 0, INT), ("task", 0, VERSIONS), ("task", 1, LONG), ("connect", 0), ("connect", 1))
        self.assert_history()
        self.make(("deliver", 0, 20))
        self.assert_history()
        self.make(("deliver", 0, 1000))
        first = ("ann", 1, INT, ("done", 1, 1))
        self.assert_history(first)
        self.make(("receive", 0, 1000))
        self.assert_history(first)
        self.make(("deliver", 1, 1000))
        second = ("ben", 1, LONG, ("done", 2, 2))
        self.assert_history(first, second)
        self.make(("deliver", 0, 1000))
        third = ("", 0, VERSIONS, ("done", (1, 2)))
        self.assert_history(first, second, third)
        self.make(("receive", 0, 1000), ("receive", 1, 1000), ("leave", 0), ("lose", []), ("start",))
        self.assert_history(first, second, third)

    def test_refusals_of_the_keeper_appear(self):
        self.make(("task", 0, ("set mode", None, "x")), ("task", 0, VERSIONS), ("connect", 0))
        self.carry(0, 0)
        self.carry(0, 0)
        self.assert_history(("ann", 1, ("set mode", None, "x"), ("refused", "bad mode")), ("", 0, VERSIONS, ("refused", "no subject")))

    def test_refusals_without_the_keeper_do_not_appear(self):
        self.make(("connect", 0))
        for octets in (b"GET / HTTP/1.1\r\n\r\n", b"PUT /mode HTTP/1.1\r\n\r\n", b"POST /subjects/s HTTP/1.1\r\n\r\n", b"x\n"):
            self.line().send(list(octets))
            self.make(("deliver", 0, 1000))
        self.assert_history()
        self.assertIs(True, self.line().session.over)

    def test_repeated_and_old_requests_do_not_appear(self):
        self.make(("task", 0, INT), ("task", 0, LONG), ("connect", 0))
        self.carry(0, 0)
        self.make(("deliver", 0, 1000))
        rows = [("ann", 1, INT, ("done", 1, 1)), ("ann", 2, LONG, ("done", 2, 2))]
        self.assert_history(*rows)
        for number in (1, 2, 3):
            self.make(("connect", 0), ("deliver", number, 1000))
            self.assertEqual(write_message(answer_octets(("done", 2, 2))), self.line(number).to_client)
            self.assert_history(*rows)
        self.line(3).send(write_message(request_of(MODE, "ann", 1)))
        self.make(("deliver", 3, 1000))
        self.assertEqual(write_message(answer_octets(("done", 2, 2))) + write_message(answer_octets(("refused", "old"))),
                         self.line(3).to_client)
        self.assert_history(*rows)

    def test_questions_that_are_repeated_appear_again(self):
        self.make(("task", 0, SUBJECTS), ("connect", 0), ("deliver", 0, 1000), ("connect", 0), ("deliver", 1, 1000))
        self.assert_history(("", 0, SUBJECTS, ("done", ())), ("", 0, SUBJECTS, ("done", ())))

    def test_what_is_asked_of_the_keeper_itself_does_not_appear(self):
        self.world.keeper.ask(SUBJECTS)
        self.world.keeper.change("ann", 1, INT)
        self.world.keeper.change_all([("zoe", 1, LONG)])
        self.assert_history()
        self.make(("task", 0, MODE), ("connect", 0), ("deliver", 0, 1000))
        self.assert_history()
        self.assertEqual(write_message(answer_octets(("done", 1, 1))), self.line().to_client)

    def lose_a_change(self, stay, allowed=1, *more):
        """The power is lost while a change is made; so many octets of its record stay."""
        self.make(("task", 0, INT), ("task", 0, LONG), ("task", 0, VERSIONS), ("connect", 0))
        self.carry(0, 0)
        self.make(("allow", allowed), ("deliver", 0, 1000))
        self.assert_down()
        self.assert_history(("ann", 1, INT, ("done", 1, 1)))
        self.make(("lose", [0, stay]), *more)

    def test_a_change_that_was_kept_when_the_power_was_lost(self):
        many = len(log_octets(2, write_change("ann", 2, LONG)))
        rows = [("ann", 1, INT, ("done", 1, 1)), ("ann", 2, LONG, ("done", 2, 2))]
        self.lose_a_change(many)
        self.assert_history(rows[0])
        self.make(("start",))
        self.assert_history(*rows)
        self.make(("connect", 0))
        self.carry(1, 0)
        self.assert_history(*rows)
        self.assertEqual([("done", 1, 1), ("done", 2, 2)], self.world.clients[0].answers)
        self.carry(1, 0)
        self.assert_history(*rows, ("", 0, VERSIONS, ("done", (1, 2))))

    def test_a_change_that_was_not_kept_when_the_power_was_lost(self):
        many = len(log_octets(2, write_change("ann", 2, LONG)))
        for allowed, stay in ((0, 0), (1, 0), (1, 1), (1, many - 1)):
            self.setUp()
            self.lose_a_change(stay, allowed, ("start",))
            self.assert_history(("ann", 1, INT, ("done", 1, 1)))
            # Another client is first now.
            self.make(("task", 1, ("set mode", "log", "none")), ("connect", 1))
            self.carry(1, 1)
            self.make(("connect", 0))
            self.carry(2, 0)
            self.assert_history(("ann", 1, INT, ("done", 1, 1)), ("ben", 1, ("set mode", "log", "none"), ("done", "none")),
                                ("ann", 2, LONG, ("done", 2, 2)))

    def test_a_change_that_appears_at_a_later_start(self):
        many = len(log_octets(2, write_change("ann", 2, LONG)))
        self.lose_a_change(many, 1, ("allow", 0), ("start",))
        self.assert_down()
        self.assert_history(("ann", 1, INT, ("done", 1, 1)))
        self.make(("lose", []), ("allow", 1), ("start",), ("lose", [5, 5]), ("lose", []))
        self.assert_history(("ann", 1, INT, ("done", 1, 1)))
        self.make(("start",))
        rows = [("ann", 1, INT, ("done", 1, 1)), ("ann", 2, LONG, ("done", 2, 2))]
        self.assert_history(*rows)
        self.make(("lose", []), ("start",))
        self.assert_history(*rows)

    def test_a_change_that_is_lost_does_not_appear_later(self):
        """It never happened; when the client asks it again, it appears once."""
        self.lose_a_change(0, 1, ("start",), ("connect", 0))
        self.carry(1, 0)
        rows = [("ann", 1, INT, ("done", 1, 1)), ("ann", 2, LONG, ("done", 2, 2))]
        self.assert_history(*rows)
        self.make(("lose", []), ("start",))
        self.assert_history(*rows)

    def test_a_change_that_is_lost_while_the_journal_is_compacted(self):
        """It was carried out, and was kept."""
        for allowed in range(2, 11):
            self.world = World(["ann"], limit=2)
            self.lose_a_change(0, allowed, ("start",))
            self.assert_history(("ann", 1, INT, ("done", 1, 1)), ("ann", 2, LONG, ("done", 2, 2)))

    def test_several_requests_delivered_at_once(self):
        self.make(("connect", 0))
        octets = []
        commands = ((INT, "ann", 1), (LONG, "ben", 7), (VERSIONS,), (INT, "ann", 1), (MODE, "ann", 2), (SUBJECTS,))
        for arguments in commands:
            octets += write_message(request_of(*arguments))
        self.line().send(octets)
        self.make(("deliver", 0, len(octets)))
        self.assert_history(("ann", 1, INT, ("done", 1, 1)), ("ben", 7, LONG, ("done", 2, 2)), ("", 0, VERSIONS, ("done", (1, 2))),
                            ("ann", 2, MODE, ("done", "none")), ("", 0, SUBJECTS, ("done", ("log",))))
        for allowed in range(6):
            self.setUp()
            self.make(("connect", 0), ("allow", allowed))
            self.line().send(octets)
            self.make(("deliver", 0, len(octets)))
            self.assert_down()
            rows = [("ann", 1, INT, ("done", 1, 1)), ("ben", 7, LONG, ("done", 2, 2)), ("", 0, VERSIONS, ("done", (1, 2)))]
            self.assert_history(*rows[:(0, 0, 1, 1, 3, 3)[allowed]])
            self.make(("lose", [0, 0]), ("start",))
            self.assert_history(*rows[:(0, 0, 1, 1, 3, 3)[allowed]])


class SettlingTest(WorldTest):
    """Points 23.4 and 23.5."""

    def test_settling_nothing(self):
        self.assertIsNone(self.world.settle())
        self.assertEqual(([], []), (self.world.lines, self.world.history))
        self.make(("connect", 0), ("allow", 3))
        self.world.settle()
        self.assertEqual(1, len(self.world.lines))
        self.assertIsNone(self.world.disk.allowance)
        self.make(("lose", []))
        self.world.settle()
        self.assertIs(Keeper, self.world.keeper.__class__)
        self.assertEqual(1, len(self.world.lines))

    def test_settling_joins_the_clients_in_order(self):
        self.world = World(["ann", "ben", "cat"])
        self.make(("task", 2, INT), ("task", 2, VERSIONS), ("task", 0, LONG), ("connect", 2), ("deliver", 0, 30))
        self.world.settle()
        self.assert_history(("ann", 1, LONG, ("done", 1, 1)), ("cat", 1, INT, ("refused", "not fitting", 1, "back", (128, 128, 128, 128, 16))),
                            ("", 0, VERSIONS, ("done", (1,))))
        self.assertEqual([True, False, False], [line.is_cut for line in self.world.lines])
        self.assertEqual([self.line(1), None, self.line(2)], [client.line for client in self.world.clients])

    def test_settling_behind_a_lost_power(self):
        for moves in ([("allow", 0)], [("allow", 1)], [("allow", 1), ("deliver", 0, 1000)], [("lose", [])],
                      [("lose", []), ("allow", 1), ("start",)], [("allow", 1), ("deliver", 0, 1000), ("lose", [0, 5]), ("allow", 2)],
                      [("allow", 0), ("deliver", 0, 1000), ("lose", []), ("allow", 0), ("start",)], [("leave", 0)]):
            self.setUp()
            self.make(("task", 0, INT), ("task", 0, VERSIONS), ("connect", 0), *moves)
            self.world.settle()
            self.assertEqual([("done", 1, 1), ("done", (1,))], self.world.clients[0].answers)
            self.assert_history(("ann", 1, INT, ("done", 1, 1)), ("", 0, VERSIONS, ("done", (1,))))

    def test_schemas_that_are_kept_are_not_asked_again(self):
        self.make(("task", 0, INT), ("task", 0, ("schema", 1)), ("task", 1, ("schema", 1)), ("task", 0, ("schema", 1)))
        self.world.settle()
        self.make(("task", 0, ("schema", 1)), ("task", 1, ("schema", 1)))
        whole = ("done", '"int"', (), '"int"')
        self.assertEqual([[("done", 1, 1), whole, whole, whole], [whole, whole]], [client.answers for client in self.world.clients])
        self.assert_history(("ann", 1, INT, ("done", 1, 1)), ("", 0, ("schema", 1), whole), ("", 0, ("schema", 1), whole))

    def test_long_texts(self):
        text = '{"kind":"int","doc":"' + "x\n" * 49970 + '"}'
        self.make(("task", 0, ("register", "log", text.replace("\n", "\\n")[:99990] + '"}', ())), ("task", 0, ("version", "log", 1)))
        self.world.settle()
        self.assertEqual([("done", 1, 1), "done"], [self.world.clients[0].answers[0], self.world.clients[0].answers[1][0]])


class Story:
    """A world that is moved by chance, and what is known of its tasks: for each one its command, the number of its
    change, and how many tasks of each client were answered when it was added."""

    def __init__(self, chosen):
        self.chosen = chosen
        self.names = ["ann", "b b", "\n"][:chosen.randrange(1, 4)]
        self.limit = chosen.choice([1, 2, 3, 100])
        self.world = World(self.names, limit=self.limit)
        self.maker = CommandMaker(chosen, Registry())
        self.tasks = [[] for _ in self.names]
        self.possible = {}

    def command(self):
        if self.world.keeper is not None:
            self.maker.registry = self.world.keeper.registry()
        word = self.chosen.randrange(10)
        if word < 2:
            return ("schema", self.chosen.randrange(1, 5))
        return self.maker.asking() if word < 5 else self.maker.changing()

    def random_move(self):
        chosen, world = self.chosen, self.world
        client = chosen.randrange(len(self.names) + (chosen.randrange(8) == 0))
        count = chosen.choice([1, 3, 20, 100, 1000, 100000, 100000])
        word = chosen.choice(["task"] * 4 + ["connect"] * 2 + ["allow"] * 3 + ["leave", "lose", "start"] + ["deliver", "receive"] * 6)
        if world.keeper is None and chosen.randrange(4):
            word = chosen.choice(["lose", "start", "start"])
        if word == "task":
            return (word, client, self.command())
        if word in ("connect", "leave"):
            return (word, client)
        if word == "deliver":
            full = [at for at, line in enumerate(world.lines) if line.to_session]
            return (word, chosen.choice(full if full and chosen.randrange(4) else range(len(world.lines) + 1)), count)
        if word == "receive":
            return (word, client, count)
        if word == "allow":
            return (word, chosen.choice([None, 0, 1, 1, 2, 3, 5, 9, 14]))
        if word == "lose":
            return (word, [chosen.randrange(300) for _ in range(chosen.randrange(5))])
        return (word,)

    def make(self, move):
        world = self.world
        before = shown(world)
        if move[0] == "task" and move[1] < len(self.names):
            tasks = self.tasks[move[1]]
            number = 1 + sum(1 for each in tasks if each[1]) if move[2][0] in CHANGING else 0
            tasks.append((move[2], number, [len(client.answers) for client in world.clients]))
        done = world.move(move)
        self.possible[move[0], done] = self.possible.get((move[0], done), 0) + 1
        return done, before

    def positions(self):
        """Returns for each task the first place in the history at which it may stand."""
        history = self.world.history
        places = [[None] * len(tasks) for tasks in self.tasks]
        found = [0] * len(self.names)
        while any(found[at] < len(tasks) for at, tasks in enumerate(self.tasks)):
            for at, name in enumerate(self.names):
                while found[at] < len(self.tasks[at]):
                    command, number, answered = self.tasks[at][found[at]]
                    if any(found[other] < count for other, count in enumerate(answered)):
                        break
                    below = [-1] + places[at][:found[at]]
                    for other, count in enumerate(answered):
                        below += places[other][:count]
                    answer = self.world.clients[at].answers[found[at]]
                    if command[0] == "schema" and self.is_kept(at, found[at]):
                        places[at][found[at]] = max(below)
                    else:
                        row = (name if number else "", number, command, answer)
                        rows = [place for place in range(max(below) + 1, len(history)) if history[place] == row]
                        if not rows:
                            raise AssertionError(f"{row} does not stand in its place")
                        places[at][found[at]] = rows[0]
                    found[at] += 1
        return places

    def is_kept(self, at, index):
        """Returns whether a client keeps the schema of a task when this becomes the current one."""
        command = self.tasks[at][index][0]
        answers = self.world.clients[at].answers
        for other, answer in zip(self.tasks[at][:index], answers):
            if other[0] == command and answer[0] == "done":
                return answer == answers[index]
        return False


class ChanceTest(WorldTest):
    """Point 23.5."""

    def assert_right(self, story):
        world = story.world
        registry = Registry()
        for client, number, command, answer in world.history:
            expected = registry.change(client, number, command) if number else registry.ask(command)
            self.assertEqual(strictly(expected), strictly(answer))
        self.assertEqual(write_state(registry), write_state(world.keeper.registry()))
        self.assertEqual(write_state(registry), write_state(Keeper(copy.deepcopy(world.disk)).registry()))
        for at, client in enumerate(world.clients):
            self.assertIsNone(client.current())
            self.assertEqual(len(story.tasks[at]), len(client.answers))
            changes = [row for row in world.history if row[0] == client.name]
            expected = [(client.name, number, command, answer)
                        for (command, number, _), answer in zip(story.tasks[at], client.answers) if number]
            self.assertEqual(expected, changes)
        story.positions()

    def test_moves_by_chance(self):
        chosen = random.Random(230)
        possible = {}
        losses = late = 0
        for _ in range(300):
            story = Story(chosen)
            for _ in range(chosen.randrange(5, 140)):
                was_up, many_rows = story.world.keeper is not None, len(story.world.history)
                move = story.random_move()
                done, before = story.make(move)
                if not done:
                    self.assertEqual(before, shown(story.world), move)
                losses += was_up and story.world.keeper is None and move[0] == "deliver"
                late += move[0] == "start" and len(story.world.history) > many_rows
            self.assertIsNone(story.world.settle())
            self.assert_right(story)
            # It goes on behind settling.
            for _ in range(20):
                story.make(story.random_move())
            story.world.settle()
            self.assert_right(story)
            for key, count in story.possible.items():
                possible[key] = possible.get(key, 0) + count
        for word in ("connect", "leave", "deliver", "receive", "start", "task"):
            self.assertGreater(min(possible[word, True], possible[word, False]), 30, word)
        self.assertEqual({("allow", False): 0, ("lose", False): 0},
                         {key: possible.get(key, 0) for key in (("allow", False), ("lose", False))})
        self.assertGreater(losses, 70)
        self.assertGreater(late, 7)

    def test_moves_without_losses(self):
        """The power is always there; lines are cut all the time."""
        chosen = random.Random(231)
        for _ in range(40):
            story = Story(chosen)
            for _ in range(120):
                move = story.random_move()
                if move[0] not in ("allow", "lose", "start"):
                    story.make(move)
            story.world.settle()
            self.assert_right(story)

    def test_the_files_are_those_of_the_keeper(self):
        world = World(["ann"], limit=2)
        for command in (INT, LONG, MODE):
            world.move(("task", 0, command))
        world.settle()
        registry = Registry()
        for number, command in ((1, INT), (2, LONG)):
            registry.change("ann", number, command)
        self.assertEqual({"snap.1": snapshot_octets(2, write_state(registry)), "log.1": log_octets(3, write_change("ann", 3, MODE))},
                         files_of(world.disk))


if __name__ == "__main__":
    unittest.main()
