"""The service: requests of chapter 18 as commands to a keeper, and its answers as messages."""

from formkeeper.bodies import is_name, read_mode_body, read_schema_body, write_mode_body, write_schema_body
from formkeeper.heads import is_number
from formkeeper.http import Answer, Reader, Request, write_message
from formkeeper.jsontext import digit_of
from formkeeper.states import read_back, written
from formkeeper.texts import character_of

PLAIN_CHARACTERS = "ABCDEFGHIJKLMNOPQRSTUVWXYZabcdefghijklmnopqrstuvwxyz0123456789_-."
FOREVER = "?forever"
MOST_DIGITS_OF_VERSION = 9
MOST_DIGITS_OF_REQUEST = 12

# The words of a target that stand for facts of a command.
SUBJECT = "S"
VERSION = "V"
VERSION_OR_ALL = "V or all"
NUMBER = "N"
FACTS = (SUBJECT, VERSION, VERSION_OR_ALL, NUMBER)
# For each method and target, the first word of the command. The default mode stands ahead of the
# mode of a subject.
ROWS = (
    ("GET", ("subjects",), "subjects"),
    ("GET", ("subjects", SUBJECT, "versions"), "versions"),
    ("GET", ("subjects", SUBJECT, "versions", VERSION), "version"),
    ("GET", ("schemas", NUMBER), "schema"),
    ("GET", ("mode",), "mode"),
    ("GET", ("mode", SUBJECT), "mode"),
    ("POST", ("subjects", SUBJECT), "lookup"),
    ("POST", ("subjects", SUBJECT, "fits", VERSION_OR_ALL), "fits"),
    ("POST", ("subjects", SUBJECT, "versions"), "register"),
    ("PUT", ("mode",), "set mode"),
    ("PUT", ("mode", SUBJECT), "set mode"),
    ("DELETE", ("subjects", SUBJECT, "versions", VERSION), "remove version"),
    ("DELETE", ("subjects", SUBJECT), "remove subject"),
)
CHANGES = ("register", "set mode", "remove version", "remove subject")

BAD_TARGET = ("refused", "bad target")
BAD_CLIENT = ("refused", "bad client")
BAD_BODY = ("refused", "bad body")
BAD_HTTP = ("refused", "bad http")
STATUSES = {
    "no subject": 404, "no version": 404, "no schema": 404,
    "old": 409, "not fitting": 409, "in use": 409, "standing": 409,
}
HEADERS_OF_ANSWER = (("content-type", "application/json"),)


def is_change(command):
    """Returns True if a command changes the registry."""
    return command[0] in CHANGES


def escape(text):
    """Returns the escaped text."""
    found = []
    for character in text:
        found.append(character if character in PLAIN_CHARACTERS else f"~{ord(character):02x}")
    return "".join(found)


def escaped_character(digits):
    """Returns the character whose code two hexadecimal digits tell, or None."""
    worths = [digit_of(digit, 16) for digit in digits]
    if len(worths) != 2 or None in worths:
        return None
    return character_of(16 * worths[0] + worths[1])


def unescape(text):
    """Returns the text that is escaped so, or None if no text is."""
    first, *parts = text.split("~")
    found = [first]
    for part in parts:
        character = escaped_character(part[:2])
        if character is None:
            return None
        found.append(character + part[2:])
    whole = "".join(found)
    # Every text is escaped in one way only: not with large digits, nor where it need not be.
    return whole if escape(whole) == text else None


def read_name(text):
    """Returns the subject or the client that is escaped so, or None if none is."""
    name = unescape(text)
    return name if is_name(name) else None


def read_number_from_1(text, most_digits):
    """Returns the number of digits that do not begin with 0, or None."""
    return int(text) if is_number(text, most_digits) and text[0] != "0" else None


def read_fact(fact, word):
    """Returns the fact of a command for which a word of a target stands, or None."""
    if fact == SUBJECT:
        return read_name(word)
    if fact != NUMBER and word == "latest" or fact == VERSION_OR_ALL and word == "all":
        return word
    return read_number_from_1(word, MOST_DIGITS_OF_VERSION)


def read_facts(pattern, words):
    """Returns the tuple of the facts for which the words of a target stand, or None if they do not
    fit a pattern."""
    if len(words) != len(pattern):
        return None
    facts = []
    for part, word in zip(pattern, words):
        if part in FACTS:
            facts.append(read_fact(part, word))
        elif part != word:
            return None
    return None if None in facts else tuple(facts)


def read_target(method, target):
    """Returns the command for which a method and a target stand, without what its body tells, or
    None."""
    is_forever = method == "DELETE" and target.endswith(FOREVER)
    words = (target[:-len(FOREVER)] if is_forever else target)[1:].split("/")
    for row_method, pattern, name in ROWS:
        facts = read_facts(pattern, words) if row_method == method else None
        if facts is not None:
            return whole_command(name, facts, is_forever)
    return None


def whole_command(name, facts, is_forever):
    """Returns the command with the facts for which the words of a target stand, or None."""
    if name == "mode" or name == "set mode":
        return (name,) + (facts if facts else (None,))
    if name == "remove version" or name == "remove subject":
        # The latest version stands, so it cannot be removed for ever.
        return None if is_forever and facts[1:] == ("latest",) else (name,) + facts + (is_forever,)
    return (name,) + facts


def write_target(pattern, command):
    """Returns the target of a command with a pattern."""
    facts = list(command[1:])
    words = []
    for part in pattern:
        if part not in FACTS:
            words.append(part)
        elif part == SUBJECT:
            words.append(escape(facts.pop(0)))
        else:
            words.append(str(facts.pop(0)))
    return "/" + "/".join(words)


def write_body(command):
    """Returns the octets of the body of the request for a command."""
    if command[0] in ("lookup", "fits", "register"):
        return write_schema_body(command[-2], command[-1])
    return write_mode_body(command[2]) if command[0] == "set mode" else []


def request_of(command, client="", number=0):
    """Returns the Request for a command."""
    rows = [row for row in ROWS if row[2] == command[0]]
    method, pattern, _ = rows[0] if command[1:2] == (None,) else rows[-1]
    target = write_target(pattern, command)
    if method == "DELETE" and command[-1]:
        target = target + FOREVER
    headers = (("client", escape(client)), ("request", str(number))) if is_change(command) else ()
    return Request(method, target, headers, write_body(command))


def header_of(request, name):
    """Returns the first value of a header, or an empty text, which none of them may have."""
    for told, value in request.headers:
        if told == name:
            return value
    return ""


def command_of(request):
    """Returns the client, the number and the command of a Request, or the answer that refuses it."""
    command = read_target(request.method, request.target)
    if command is None:
        return BAD_TARGET
    client, number = "", 0
    if is_change(command):
        client = read_name(header_of(request, "client"))
        number = read_number_from_1(header_of(request, "request"), MOST_DIGITS_OF_REQUEST)
        if client is None or number is None:
            return BAD_CLIENT
    if request.method == "POST" or request.method == "PUT":
        facts = read_schema_body(request.body) if request.method == "POST" else read_mode_body(request.body)
        if facts is None:
            return BAD_BODY
        command = command + facts
    return (client, number, command)


def status_of(answer):
    """Returns the status that tells an answer."""
    return 200 if answer[0] == "done" else STATUSES.get(answer[1], 400)


def answer_octets(answer):
    """Returns the Answer that tells an answer."""
    return Answer(status_of(answer), HEADERS_OF_ANSWER, written(answer))


def told_answer(message):
    """Returns the answer that an Answer tells."""
    return read_back(message.body)


class Service:
    """Answers requests by a keeper."""

    def __init__(self, keeper):
        self.keeper = keeper

    def answer(self, request):
        """Returns the Answer to a Request."""
        asked = command_of(request)
        if len(asked) == 2:
            return answer_octets(asked)
        client, number, command = asked
        if is_change(command):
            return answer_octets(self.keeper.change(client, number, command))
        return answer_octets(self.keeper.ask(command))


class Session:
    """The side of a connection that answers the requests; it is `over` behind a fault."""

    def __init__(self, service):
        self.service = service
        self.over = False
        self.reader = Reader("request")

    def receive(self, octets):
        """Takes octets of the connection, and returns the octets of the answers."""
        given = []
        for word, fact in self.reader.feed(octets):
            if word == "fault":
                self.over = True
                given.extend(write_message(answer_octets(BAD_HTTP)))
            else:
                given.extend(write_message(self.service.answer(fact)))
        return given
