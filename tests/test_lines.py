"""Chapter "Lines": point 20.1."""

import random
import unittest

from formkeeper.disk import Disk
from formkeeper.errors import PowerLost
from formkeeper.http import write_message
from formkeeper.keeper import Keeper
from formkeeper.lines import Line
from formkeeper.service import Service, Session, answer_octets, request_of
from tests.support import ProgramTest

ASK = request_of(("subjects",))
CHANGE = request_of(("register", "log", '"int"', ()), "ann", 1)


class EchoSession:
    """Stands in the place of a session: it gives each octet back twice."""

    def __init__(self):
        self.received = []

    def receive(self, octets):
        self.received += octets
        return [octet for octet in octets for _ in range(2)]


class LostSession(EchoSession):
    """Loses its power when an octet 0 arrives."""

    def receive(self, octets):
        given = super().receive(octets)
        if 0 in octets:
            raise PowerLost(0)
        return given


class LinesTest(ProgramTest):

    def setUp(self):
        self.session = EchoSession()
        self.line = Line(self.session)

    def assert_on_its_way(self, to_session, to_client):
        self.assertEqual((to_session, to_client), (self.line.to_session, self.line.to_client))
        self.assertEqual((list, list), (self.line.to_session.__class__, self.line.to_client.__class__))

    def test_a_new_line(self):
        self.assertIs(self.session, self.line.session)
        self.assertIs(False, self.line.is_cut)
        self.assert_on_its_way([], [])
        self.assert_gives(0, self.line.deliver, 5)
        self.assert_gives([], self.line.receive, 5)
        self.assertEqual([], self.session.received)

    def test_octets_in_order_in_both_directions(self):
        self.assert_gives(None, self.line.send, [1, 2, 3])
        self.assert_on_its_way([1, 2, 3], [])
        self.assert_gives(None, self.line.send, [])
        self.line.send([4, 5])
        self.assert_on_its_way([1, 2, 3, 4, 5], [])
        self.assert_gives(2, self.line.deliver, 2)
        self.assert_on_its_way([3, 4, 5], [1, 1, 2, 2])
        self.assert_gives([1, 1, 2], self.line.receive, 3)
        self.assert_on_its_way([3, 4, 5], [2])
        self.assert_gives(1, self.line.deliver, 1)
        self.assert_on_its_way([4, 5], [2, 3, 3])
        self.line.send([6])
        self.assert_gives(3, self.line.deliver, 100)
        self.assert_on_its_way([], [2, 3, 3, 4, 4, 5, 5, 6, 6])
        self.assert_gives([2, 3, 3, 4, 4, 5, 5, 6, 6], self.line.receive, 100)
        self.assert_on_its_way([], [])
        self.assertEqual([1, 2, 3, 4, 5, 6], self.session.received)

    def test_counts_smaller_than_equal_to_and_greater_than_what_is_on_its_way(self):
        for count in (0, 1, 4, 5, 6, 1000):
            self.setUp()
            self.line.send([1, 2, 3, 4, 5])
            self.assert_gives(min(count, 5), self.line.deliver, count)
            self.assertEqual([1, 2, 3, 4, 5][:count], self.session.received)
            self.line.deliver(5)
            given = [octet for octet in (1, 2, 3, 4, 5) for _ in range(2)]
            self.assert_gives(given[:count], self.line.receive, count)
            self.assert_on_its_way([], given[count:])

    def test_a_cut_with_octets_on_their_way(self):
        self.line.send([1, 2, 3])
        self.line.deliver(1)
        self.assert_on_its_way([2, 3], [1, 1])
        self.assert_gives(None, self.line.cut)
        self.assertIs(True, self.line.is_cut)
        self.assert_on_its_way([2, 3], [])
        self.assert_gives([], self.line.receive, 5)
        self.assert_gives(None, self.line.send, [9])
        self.assert_on_its_way([2, 3], [])
        self.assert_gives(1, self.line.deliver, 1)
        self.assert_on_its_way([3], [])
        self.assert_gives(1, self.line.deliver, 5)
        self.assertEqual([1, 2, 3], self.session.received)
        self.assert_on_its_way([], [])
        self.assert_gives([], self.line.receive, 5)
        self.line.cut()
        self.assertIs(True, self.line.is_cut)

    def test_sending_on_a_cut_line(self):
        self.line.cut()
        self.line.send([1])
        self.assert_on_its_way([], [])
        self.assert_gives(0, self.line.deliver, 1)
        self.assertEqual([], self.session.received)

    def test_power_lost(self):
        self.session = LostSession()
        self.line = Line(self.session)
        self.line.send([1, 2, 0, 3])
        self.line.deliver(1)
        self.assert_raises_at(PowerLost, 0, self.line.deliver, 2)
        self.assert_on_its_way([3], [1, 1])
        self.assertEqual([1, 2, 0], self.session.received)

    def test_power_lost_in_a_real_session(self):
        disk = Disk()
        line = Line(Session(Service(Keeper(disk))))
        octets = write_message(ASK) + write_message(CHANGE) + write_message(ASK)
        line.send(octets)
        disk.allow(0)
        self.assert_raises_at(PowerLost, 0, line.deliver, len(octets) - 3)
        self.assertEqual((octets[-3:], []), (line.to_session, line.to_client))

    def test_a_real_session(self):
        keeper = Keeper(Disk())
        line = Line(Session(Service(keeper)))
        line.send(write_message(CHANGE) + write_message(ASK))
        answers = write_message(answer_octets(("done", 1, 1))) + write_message(answer_octets(("done", ("log",))))
        self.assertEqual(len(write_message(CHANGE)), line.deliver(len(write_message(CHANGE))))
        self.assertEqual(write_message(answer_octets(("done", 1, 1))), line.to_client)
        line.deliver(10000)
        self.assertEqual(answers, line.receive(10000))

    def test_what_arrives_behind_a_cut_is_done(self):
        keeper = Keeper(Disk())
        line = Line(Session(Service(keeper)))
        line.send(write_message(CHANGE))
        line.deliver(20)
        line.cut()
        line.deliver(10000)
        self.assertEqual([], line.to_client)
        self.assertEqual(("done", ("log",)), keeper.ask(("subjects",)))

    def test_lists_may_be_changed_by_the_caller(self):
        octets = [1, 2]
        self.line.send(octets)
        octets.append(3)
        self.assert_on_its_way([1, 2], [])
        self.line.deliver(2)
        received = self.line.receive(2)
        received.clear()
        self.assert_on_its_way([], [2, 2])

    def test_two_lines_share_nothing(self):
        other = Line(EchoSession())
        self.line.send([1])
        self.line.deliver(1)
        self.assertEqual(([], [], False), (other.to_session, other.to_client, other.is_cut))

    def test_lines_by_chance(self):
        """Compared with what was sent, arrived and given altogether."""
        chosen = random.Random(200)
        for _ in range(200):
            self.setUp()
            sent, given, received, lost = [], [], [], False
            for _ in range(30):
                word = chosen.randrange(20)
                octets = [chosen.randrange(256) for _ in range(chosen.randrange(6))]
                count = chosen.randrange(8)
                if word < 8:
                    self.line.send(octets)
                    sent += [] if lost else octets
                elif word < 14:
                    before = len(self.session.received)
                    self.assertEqual(min(count, len(sent) - before), self.line.deliver(count))
                    given += [] if lost else [octet for octet in self.session.received[before:] for _ in range(2)]
                elif word < 19:
                    received += self.line.receive(count)
                elif chosen.randrange(3) == 0:
                    self.line.cut()
                    lost, given = True, list(received)
                self.assertEqual(sent, self.session.received + self.line.to_session)
                self.assertEqual(given, received + self.line.to_client)
                self.assertIs(lost, self.line.is_cut)


if __name__ == "__main__":
    unittest.main()
