"""Lines, which carry octets between a client and a session until they are cut."""


class Line:
    """A line to a Session, with the octets that are on their way."""

    def __init__(self, session):
        self.session = session
        self.to_session = []
        self.to_client = []
        self.is_cut = False

    def send(self, octets):
        """The client sends octets."""
        if not self.is_cut:
            self.to_session.extend(octets)

    def deliver(self, count):
        """Lets at most `count` octets arrive at the session, and returns how many they were."""
        octets = self.to_session[:count]
        # They have arrived also if the session raises PowerLost.
        del self.to_session[:count]
        given = self.session.receive(octets)
        if not self.is_cut:
            self.to_client.extend(given)
        return len(octets)

    def receive(self, count):
        """Returns at most `count` octets, which arrive at the client."""
        octets = self.to_client[:count]
        del self.to_client[:count]
        return octets

    def cut(self):
        """Cuts the line: nothing more arrives at the client."""
        self.is_cut = True
        self.to_client = []
