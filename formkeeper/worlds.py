"""Worlds: a keeper, its disk, and clients with lines, all of which may fail."""

from formkeeper.clients import Client
from formkeeper.disk import Disk
from formkeeper.errors import PowerLost
from formkeeper.keeper import Keeper
from formkeeper.lines import Line
from formkeeper.service import Service, Session
from formkeeper.witness import Witness


class World:
    """A world. `may_start` tells whether the disk has lost its power behind the last start; then the
    keeper is down."""

    def __init__(self, names, *, limit=100):
        self.limit = limit
        self.disk = Disk()
        self.keeper = None
        self.clients = [Client(name) for name in names]
        self.lines = []
        self.history = []
        self.witness = Witness(self.history)
        self.may_start = False
        self.start()

    def move(self, move):
        """Performs a move. Returns True if it was possible."""
        word = move[0]
        if word == "allow":
            self.disk.allow(move[1])
            return True
        if word == "lose":
            return self.lose(move[1])
        if word == "start":
            return self.start_again()
        if word == "deliver":
            return self.deliver(move[1], move[2])
        if not 0 <= move[1] < len(self.clients):
            return False
        client = self.clients[move[1]]
        if word == "task":
            client.add(move[2])
            return True
        if word == "connect":
            return self.connect(client)
        return self.leave(client) if word == "leave" else self.receive(client, move[2])

    def start(self):
        """Opens a keeper on the disk."""
        self.keeper = Keeper(self.disk, limit=self.limit)
        self.witness.take(self.keeper)

    def start_again(self):
        if not self.may_start:
            return False
        self.may_start = False
        try:
            self.start()
        except PowerLost:
            self.go_down()
        return True

    def go_down(self):
        """The keeper goes down, and with it all lines."""
        self.keeper = None
        for line in self.lines:
            line.cut()
            line.to_session = []

    def lose(self, choices):
        self.go_down()
        self.disk.lose(choices)
        self.may_start = True
        return True

    def connect(self, client):
        if self.keeper is None:
            return False
        self.lines.append(Line(Session(Service(self.witness))))
        client.connect(self.lines[-1])
        return True

    def leave(self, client):
        if client.line is None:
            return False
        client.leave()
        return True

    def deliver(self, number, count):
        if not 0 <= number < len(self.lines) or not self.lines[number].to_session:
            return False
        try:
            self.lines[number].deliver(count)
        except PowerLost:
            self.go_down()
        return True

    def receive(self, client, count):
        if client.line is None or not client.line.to_client:
            return False
        client.receive(count)
        return True

    def settle(self):
        """Lets the world come to rest: all tasks are answered."""
        if self.keeper is None:
            self.move(("lose", []))
            self.move(("start",))
        self.move(("allow", None))
        while self.has_tasks():
            for index, client in enumerate(self.clients):
                if client.current() is not None:
                    self.move(("connect", index))
                    self.carry_all(index, client.line)

    def has_tasks(self):
        """Returns True if a client has a current task."""
        for client in self.clients:
            if client.current() is not None:
                return True
        return False

    def carry_all(self, index, line):
        """Lets octets arrive on the newest line, which is that of the client with an index, until
        nothing is on its way."""
        while line.to_session or line.to_client:
            self.move(("deliver", len(self.lines) - 1, len(line.to_session)))
            self.move(("receive", index, len(line.to_client)))
