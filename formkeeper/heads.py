"""The lines of messages: first lines, headers, and the lengths of bodies and of chunks."""

from formkeeper.errors import InvalidHttp
from formkeeper.jsontext import digit_of
from formkeeper.texts import SPACE, decode_text, is_code

PROTOCOL = "HTTP/1.1"
LARGE_LETTERS = "ABCDEFGHIJKLMNOPQRSTUVWXYZ"
LONGEST_METHOD = 10
LONGEST_NAME = 40
LEAST_STATUS = 100
GREATEST_STATUS = 599
LENGTH = "content-length"
CODING = "transfer-encoding"
CHUNKED = "chunked"
LONGEST_LENGTH = 9
LONGEST_CHUNK_LENGTH = 7
MOST_OCTETS = 1000000


def has_only(text, characters):
    """Returns True if a text consists of these characters."""
    for character in text:
        if character not in characters:
            return False
    return True


def is_number(text, most_digits):
    """Returns True if a text is 1 to so many digits."""
    return 1 <= len(text) <= most_digits and has_only(text, "0123456789")


def read_line(octets, place):
    """Returns the text of a line without its end. The line begins at a place."""
    is_ended = octets[-2:] == [13, 10]
    inner = octets[:-2] if is_ended else octets[:-1]
    for at, octet in enumerate(inner):
        if octet < SPACE or not is_code(octet):
            raise InvalidHttp(place + at)
    if not is_ended:
        raise InvalidHttp(place + len(inner))
    return decode_text(inner)


def read_request_line(text):
    """Returns the method and the target of the first line of a request, or None."""
    words = text.split(" ")
    if len(words) != 3 or words[2] != PROTOCOL:
        return None
    method, target, _ = words
    if not 1 <= len(method) <= LONGEST_METHOD or not has_only(method, LARGE_LETTERS):
        return None
    return (method, target) if target.startswith("/") else None


def read_answer_line(text):
    """Returns the status of the first line of an answer in a tuple, or None."""
    protocol, _, rest = text.partition(" ")
    status, space, _ = rest.partition(" ")
    if protocol != PROTOCOL or space == "" or not is_number(status, 3):
        return None
    return (int(status),) if LEAST_STATUS <= int(status) <= GREATEST_STATUS else None


def read_header(text):
    """Returns the name, in small letters, and the value of a header, or None."""
    name, colon, value = text.partition(":")
    name = name.lower()
    if colon == "" or not 1 <= len(name) <= LONGEST_NAME:
        return None
    if not has_only(name, "abcdefghijklmnopqrstuvwxyz0123456789-"):
        return None
    return (name, value.strip(" "))


def body_form(headers):
    """Returns what the headers tell of a body: how many octets it has, or the word `chunked`; None
    if they tell it wrongly."""
    told = [header for header in headers if header[0] == LENGTH or header[0] == CODING]
    if not told:
        return 0
    name, value = told[0]
    if len(told) > 1:
        return None
    if name == CODING:
        return CHUNKED if value == CHUNKED else None
    if not is_number(value, LONGEST_LENGTH) or value != str(int(value)):
        return None
    return int(value) if int(value) <= MOST_OCTETS else None


def read_chunk_length(text):
    """Returns the number of octets that the line of a chunk tells, or None."""
    if not 1 <= len(text) <= LONGEST_CHUNK_LENGTH:
        return None
    length = 0
    for character in text:
        worth = digit_of(character, 16)
        if worth is None:
            return None
        length = 16 * length + worth
    return length
