"""Requests and answers as octets."""

from formkeeper.errors import InvalidHttp
from formkeeper.heads import (
    CHUNKED, CODING, LENGTH, MOST_OCTETS, PROTOCOL, body_form, read_answer_line, read_chunk_length, read_header,
    read_line, read_request_line
)
from formkeeper.texts import encode_text

CARRIAGE_RETURN = 13
LINE_FEED = 10
LONGEST_LINE = 4000
MOST_HEADERS = 40

# What a reader expects next: a line ..
FIRST_LINE = "first line"
HEADER = "header"
CHUNK_LINE = "line of a chunk"
LAST_LINE = "last line"
# .. octets of the body, or the two octets behind a chunk.
BODY = "body"
CHUNK = "chunk"
RETURN_BEHIND = "13 behind a chunk"
FEED_BEHIND = "10 behind a chunk"


class Request:
    """A request."""

    def __init__(self, method, target, headers, body):
        self.method = method
        self.target = target
        self.headers = headers
        self.body = body

    def __eq__(self, other):
        if not isinstance(other, Request) or self.method != other.method or self.target != other.target:
            return False
        return self.headers == other.headers and self.body == other.body


class Answer:
    """An answer."""

    def __init__(self, status, headers, body):
        self.status = status
        self.headers = headers
        self.body = body

    def __eq__(self, other):
        if not isinstance(other, Answer) or self.status != other.status:
            return False
        return self.headers == other.headers and self.body == other.body


def write_line(text):
    """Returns the octets of a line."""
    return encode_text(text) + [CARRIAGE_RETURN, LINE_FEED]


def reason_of(status):
    """Returns the reason that the first line of an answer tells."""
    if status == 200:
        return "OK"
    return "Refused" if 400 <= status <= 499 else "Other"


def first_line_of(message):
    """Returns the text of the first line of a message."""
    if isinstance(message, Request):
        return f"{message.method} {message.target} {PROTOCOL}"
    return f"{PROTOCOL} {message.status} {reason_of(message.status)}"


def write_chunks(body, lengths):
    """Returns the octets of a body in chunks of these lengths."""
    octets = []
    at = 0
    for length in lengths:
        octets.extend(write_line(f"{length:x}"))
        octets.extend(body[at:at + length])
        octets.extend(write_line(""))
        at += length
    return octets + write_line("0") + write_line("")


def write_message(message, chunks=None):
    """Returns the octets of a message, its body in chunks of these lengths if they are told."""
    told = (LENGTH, str(len(message.body))) if chunks is None else (CODING, CHUNKED)
    octets = write_line(first_line_of(message))
    for name, value in message.headers + (told,):
        octets.extend(write_line(f"{name}: {value}"))
    octets.extend(write_line(""))
    return octets + (message.body if chunks is None else write_chunks(message.body, chunks))


class Reader:
    """Reads the messages of one direction of a connection. `fed` octets were fed; the message that
    is read begins at the place `message_begin`, and the line or what else is expected at `begin`."""

    def __init__(self, kind):
        self.kind = kind
        self.fed = 0
        self.begin = 0
        self.is_over = False
        self.line = []
        self.begin_message()

    def begin_message(self):
        self.message_begin = self.begin
        self.expected = FIRST_LINE
        self.first = None
        self.headers = []
        self.body = []
        self.missing = 0

    def feed(self, octets):
        """Returns the list of the new events."""
        if self.is_over:
            return []
        start = self.fed
        events = []
        try:
            while self.fed < start + len(octets):
                self.take(octets, self.fed - start)
                if self.expected is None:
                    events.append(("message", self.message()))
                    self.begin_message()
        except InvalidHttp as error:
            self.is_over = True
            events.append(("fault", error.place))
        return events

    def finish(self):
        """Returns the event of a connection that ends inside a message."""
        if self.is_over or self.fed == self.message_begin:
            return []
        return [("cut", self.fed)]

    def take(self, octets, at):
        """Takes some of the octets that were fed, from an index on, all of them for one thing that
        is expected."""
        if self.expected == BODY or self.expected == CHUNK:
            self.take_body(octets, at)
        elif self.expected == RETURN_BEHIND or self.expected == FEED_BEHIND:
            self.take_behind(octets[at])
        else:
            self.take_line(octets, at)

    def expect(self, expected):
        """What was expected has arrived, and something else is expected behind it: nothing more of
        this message, if it is None."""
        self.expected = expected
        self.begin = self.fed

    def take_body(self, octets, at):
        taken = octets[at:at + self.missing]
        self.body.extend(taken)
        self.fed += len(taken)
        self.missing -= len(taken)
        if self.missing == 0:
            self.expect(None if self.expected == BODY else RETURN_BEHIND)

    def take_behind(self, octet):
        """Takes one of the octets behind a chunk."""
        is_first = self.expected == RETURN_BEHIND
        if octet != (CARRIAGE_RETURN if is_first else LINE_FEED):
            raise InvalidHttp(self.fed)
        self.fed += 1
        self.expect(FEED_BEHIND if is_first else CHUNK_LINE)

    def take_line(self, octets, at):
        """Takes octets of a line, and judges it when it is whole."""
        end = min(len(octets), at + LONGEST_LINE - len(self.line))
        for index in range(at, end):
            self.line.append(octets[index])
            self.fed += 1
            if octets[index] == LINE_FEED:
                text = read_line(self.line, self.begin)
                self.line = []
                self.judge(text)
                return
        if len(self.line) == LONGEST_LINE:
            raise InvalidHttp(self.begin)

    def judge(self, text):
        """Reads the text of a line."""
        if self.expected == FIRST_LINE:
            self.first = self.checked(read_request_line(text) if self.kind == "request" else read_answer_line(text))
            self.expect(HEADER)
        elif self.expected == HEADER and text != "":
            self.headers.append(self.checked(read_header(text)))
            if len(self.headers) > MOST_HEADERS:
                raise InvalidHttp(self.begin)
            self.expect(HEADER)
        elif self.expected == HEADER:
            self.begin_body(self.checked(body_form(self.headers)))
        elif self.expected == CHUNK_LINE:
            self.begin_chunk(self.checked(read_chunk_length(text)))
        else:
            self.checked(text if text == "" else None)
            self.expect(None)

    def checked(self, found):
        """Returns what was read of a line; it is a fault of the line if this is None."""
        if found is None:
            raise InvalidHttp(self.begin)
        return found

    def begin_body(self, form):
        """Begins the body of a form that formkeeper.heads tells."""
        if form == CHUNKED:
            self.expect(CHUNK_LINE)
        else:
            self.missing = form
            self.expect(BODY if form > 0 else None)

    def begin_chunk(self, length):
        if len(self.body) + length > MOST_OCTETS:
            raise InvalidHttp(self.begin)
        self.missing = length
        self.expect(CHUNK if length > 0 else LAST_LINE)

    def message(self):
        """Returns the message that is complete."""
        headers = tuple([header for header in self.headers if header[0] != LENGTH and header[0] != CODING])
        if self.kind == "request":
            return Request(self.first[0], self.first[1], headers, self.body)
        return Answer(self.first[0], headers, self.body)
