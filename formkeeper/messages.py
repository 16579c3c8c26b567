"""Messages with the number of their schema."""

from formkeeper.bigend import read_wide, write_wide
from formkeeper.encoding import encode
from formkeeper.errors import InvalidData, Truncated
from formkeeper.reading import read_as

FIRST_OCTET = 0
NUMBER_WIDTH = 4
HEAD_LENGTH = 1 + NUMBER_WIDTH


def write_message_of(number, schema, value):
    """Returns the octets of a message: a value of the schema with a number."""
    return [FIRST_OCTET] + write_wide(number, NUMBER_WIDTH) + encode(schema, value)


def number_of(octets):
    """Returns the number of the schema of a message."""
    if octets and octets[0] != FIRST_OCTET:
        raise InvalidData(0)
    if len(octets) < HEAD_LENGTH:
        raise Truncated(len(octets))
    return read_wide(octets[1:HEAD_LENGTH])


def read_message_as(writer, reader, octets):
    """Returns the value of a message that was written by the writer, as one of the reader."""
    number_of(octets)
    value, behind = read_as(writer, reader, octets, HEAD_LENGTH)
    if behind < len(octets):
        raise InvalidData(behind)
    return value
