"""A witness of what a keeper answers."""

from formkeeper.keeper import last_request


class Witness:
    """Asks a keeper, and adds what it answers to a history. `begun` is a change during which the
    keeper has lost its power, or None: nobody knows yet whether it was kept."""

    def __init__(self, history):
        self.history = history
        self.keeper = None
        self.begun = None

    def ask(self, command):
        """Returns the answer to a command that asks."""
        answer = self.keeper.ask(command)
        self.history.append(("", 0, command, answer))
        return answer

    def change(self, client, request, command):
        """Returns the answer to a change. One that is repeated or old is not carried out again."""
        is_new = request > last_request(self.keeper.registry(), client)
        if is_new:
            self.begun = (client, request, command)
        answer = self.keeper.change(client, request, command)
        if is_new:
            self.begun = None
            self.history.append((client, request, command, answer))
        return answer

    def take(self, keeper):
        """Asks this keeper from now on. It remembers the change that was begun if that was kept."""
        self.keeper = keeper
        if self.begun is not None:
            client, request, command = self.begun
            last = keeper.registry().remembered(client)
            if last is not None and last[0] == request:
                self.history.append((client, request, command, last[1]))
        self.begun = None
