"""Clients, which ask their tasks one after the other over lines that may be cut."""

from formkeeper.errors import InvalidJson, InvalidText
from formkeeper.http import Reader, write_message
from formkeeper.service import is_change, request_of, status_of, told_answer


def is_answer(value):
    """Returns True if something is a tuple that begins as an answer does."""
    if not isinstance(value, tuple):
        return False
    return value[:1] == ("done",) or value[:1] == ("refused",) and len(value) > 1 and isinstance(value[1], str)


def read_answer(message):
    """Returns the answer that an Answer tells, or None if it is not valid."""
    try:
        answer = told_answer(message)
    except (InvalidText, InvalidJson):
        return None
    return answer if is_answer(answer) and status_of(answer) == message.status else None


class Client:
    """A client. `tasks` holds each of its tasks as a command and the number of its change, which is
    0 if it asks; `many_done` of them are answered. `kept` holds the answers that tell a schema."""

    def __init__(self, name):
        self.name = name
        self.answers = []
        self.line = None
        self.reader = None
        self.tasks = []
        self.many_done = 0
        self.many_changes = 0
        self.kept = {}

    def add(self, command):
        """Adds a task."""
        number = 0
        if is_change(command):
            self.many_changes += 1
            number = self.many_changes
        self.tasks.append((command, number))
        if len(self.tasks) == self.many_done + 1:
            self.begin_task()

    def connect(self, line):
        """Takes a new line, and sends the current request on it."""
        self.leave()
        self.line = line
        self.reader = Reader("answer")
        self.begin_task()

    def receive(self, count):
        """Receives at most `count` octets of its line, and returns how many they were."""
        if self.line is None:
            return 0
        octets = self.line.receive(count)
        for word, fact in self.reader.feed(octets):
            # Behind an answer that is not valid, the line is left.
            if self.line is not None:
                self.take_answer(read_answer(fact) if word == "message" else None)
        return len(octets)

    def leave(self):
        """Cuts its line, if it has one."""
        if self.line is not None:
            self.line.cut()
            self.line = None

    def current(self):
        """Returns the command of the current task, or None."""
        return self.tasks[self.many_done][0] if self.many_done < len(self.tasks) else None

    def whole(self, number):
        """Returns the whole text of a schema that is kept, or None."""
        return self.kept[number][3] if number in self.kept else None

    def begin_task(self):
        """Answers the current task, and those behind it, as long as their schemas are kept; then
        sends the request of the current task."""
        while self.kept_answer() is not None:
            self.end_task(self.kept_answer())
        if self.line is not None and self.current() is not None:
            command, number = self.tasks[self.many_done]
            self.line.send(write_message(request_of(command, self.name, number)))

    def kept_answer(self):
        """Returns the answer to the current task if it is kept, or None."""
        command = self.current()
        if command is None or command[0] != "schema":
            return None
        return self.kept.get(command[1])

    def take_answer(self, answer):
        """Takes an answer that has arrived; it is None if it is not valid."""
        command = self.current()
        if answer is None or command is None:
            self.leave()
            return
        if command[0] == "schema" and answer[0] == "done" and len(answer) == 4:
            self.kept[command[1]] = answer
        self.end_task(answer)
        self.begin_task()

    def end_task(self, answer):
        """Answers the current task."""
        self.answers.append(answer)
        self.many_done += 1
