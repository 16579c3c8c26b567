"""Keepers: a registry that is kept on a disk."""

from formkeeper.journal import Journal
from formkeeper.registry import Registry
from formkeeper.states import read_change, read_state, write_change, write_state


def last_request(registry, client):
    """Returns the number of the last request that a registry remembers of a client, or 0."""
    last = registry.remembered(client)
    return 0 if last is None else last[0]


def kept_registry(journal):
    """Returns the registry to which the snapshot and the records of a journal lead."""
    snapshot = journal.snapshot()
    is_new = journal.base() == 0 and not snapshot
    registry = Registry() if is_new else read_state(snapshot)
    for record in journal.records():
        client, request, command = read_change(record)
        registry.change(client, request, command)
    return registry


class Keeper:
    """A registry on a disk: `held` is the registry, and `journal` bears its changes."""

    def __init__(self, disk, *, limit=100):
        self.limit = limit
        self.journal = Journal(disk)
        self.held = kept_registry(self.journal)

    def registry(self):
        """Returns the Registry, which is not to be changed."""
        return self.held

    def ask(self, command):
        """Returns the answer to a command that asks."""
        return self.held.ask(command)

    def change(self, client, request, command):
        """Returns the answer to a change."""
        return self.change_all([(client, request, command)])[0]

    def change_all(self, changes):
        """Returns the list of the answers to a list of changes."""
        is_longer = self.append_new(changes)
        # No change is carried out before its record is kept: else its answer might be lost again.
        if is_longer:
            self.journal.sync()
        answers = []
        for client, request, command in changes:
            answers.append(self.held.change(client, request, command))
        if is_longer and self.journal.last() - self.journal.base() >= self.limit:
            self.journal.compact(write_state(self.held))
        return answers

    def append_new(self, changes):
        """Appends the records of those changes that are neither repeated nor old to the journal.
        Returns True if there are any."""
        last = self.journal.last()
        numbers = {}
        for client, request, command in changes:
            if client not in numbers:
                numbers[client] = last_request(self.held, client)
            if request > numbers[client]:
                numbers[client] = request
                self.journal.append(write_change(client, request, command))
        return self.journal.last() > last
