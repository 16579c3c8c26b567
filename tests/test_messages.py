"""Chapter "Messages with the number of their schema": points 21.1 and 21.2."""

import random
import unittest

from formkeeper.encoding import decode, encode
from formkeeper.errors import FormkeeperError, InvalidData, Truncated, Unreadable
from formkeeper.messages import number_of, read_message_as, write_message_of
from formkeeper.reading import read_as
from formkeeper.schemas import Schema, parse_schema
from tests.changed_schemas import some_pairs
from tests.disks import wide
from tests.some_schemas import some_value
from tests.support import ProgramTest

INT, LONG, STRING, BYTES, NULL, BOOLEAN = [
    Schema((name,), {}) for name in ("int", "long", "string", "bytes", "null", "boolean")]
INTS = Schema(("array", ("int",)), {})
NUMBERS = (1, 2, 127, 128, 255, 256, 65535, 65536, 16777216, 2 ** 31, 2 ** 32 - 1)


class WritingTest(ProgramTest):
    """Point 21.1."""

    def test_examples_of_the_document(self):
        self.assertEqual([0, 0, 0, 1, 2, 6], write_message_of(258, Schema(("int",), {}), 3))
        self.assertEqual(258, number_of([0, 0, 0, 1, 2, 6]))

    def test_the_octets(self):
        for number in NUMBERS:
            head = [0] + wide(number, 4)
            self.assert_gives(head + [6], write_message_of, number, INT, 3)
            self.assert_gives(head, write_message_of, number, NULL, None)
            self.assert_gives(head + [4, 97, 98], write_message_of, number, STRING, "ab")
            self.assert_gives(head + [4, 2, 4, 0], write_message_of, number, INTS, [1, 2])
            self.assert_gives(number, number_of, head)
            self.assert_gives(number, number_of, head + [1, 2, 3])
        self.assert_gives([0, 255, 255, 255, 255, 1], write_message_of, 2 ** 32 - 1, INT, -1)
        self.assert_gives([0, 1, 2, 3, 4, 0], write_message_of, 16909060, INT, 0)

    def test_the_octets_are_the_callers_own(self):
        value = [1, 2]
        octets = write_message_of(1, BYTES, value)
        octets.clear()
        self.assertEqual([1, 2], value)
        octets = write_message_of(1, BYTES, value)
        value.clear()
        self.assertEqual([1, 2], read_message_as(BYTES, BYTES, octets))
        read_message_as(BYTES, BYTES, octets).clear()
        self.assertEqual([0, 0, 0, 0, 1, 4, 1, 2], octets)


class ReadingTest(ProgramTest):
    """Point 21.2."""

    def assert_reads(self, value, writer, reader, octets):
        self.assert_gives(value, read_message_as, writer, reader, octets)

    def assert_refused(self, error_class, place, writer, reader, octets):
        self.assert_raises_at(error_class, place, read_message_as, writer, reader, octets)

    def test_values(self):
        head = [0, 0, 0, 0, 7]
        self.assert_reads(3, INT, INT, head + [6])
        self.assert_reads(3, INT, LONG, head + [6])
        self.assert_reads([97, 98], STRING, BYTES, head + [4, 97, 98])
        self.assert_reads((1, "ab"), STRING, Schema(("union", (("null",), ("string",))), {}), head + [4, 97, 98])
        self.assert_reads(None, NULL, NULL, head)
        self.assert_reads([1, 2], INTS, INTS, head + [2, 2, 1, 2, 4, 0])
        # Whatever the number is.
        for number in NUMBERS + (0,):
            self.assert_reads(3, INT, INT, [0] + wide(number, 4) + [6])

    def test_the_first_five_octets(self):
        for function, arguments in ((number_of, ()), (read_message_as, (INT, INT)), (read_message_as, (INT, STRING)),
                                    (read_message_as, (NULL, NULL))):
            for first in (1, 2, 127, 128, 255):
                for length in range(8):
                    self.assert_raises_at(InvalidData, 0, function, *arguments, [first] + [0] * length)
            for length in range(5):
                for octet in (0, 1, 255):
                    self.assert_raises_at(Truncated, length, function, *arguments, ([0] + [octet] * 4)[:length])

    def test_places_are_counted_from_the_first_octet(self):
        head = [0, 0, 0, 0, 7]
        self.assert_refused(Truncated, 5, INT, INT, head)
        self.assert_refused(Truncated, 6, INT, INT, head + [128])
        self.assert_refused(Truncated, 7, STRING, STRING, head + [4, 97])
        self.assert_refused(InvalidData, 5, INT, INT, head + [128, 0])
        self.assert_refused(InvalidData, 5, BOOLEAN, BOOLEAN, head + [2])
        self.assert_refused(InvalidData, 7, STRING, STRING, head + [4, 97, 37])
        self.assert_refused(InvalidData, 7, INTS, INTS, head + [4, 2, 255, 255, 255, 255, 16])
        self.assert_refused(Unreadable, 5, LONG, INT, head + [128, 128, 128, 128, 16])
        self.assert_refused(Unreadable, 5, INT, STRING, head + [6])
        self.assert_refused(Unreadable, 5, BYTES, STRING, head + [2, 37])
        union = Schema(("union", (("int",), ("string",))), {})
        self.assert_refused(Unreadable, 6, union, INT, head + [2, 2, 97])

    def test_octets_behind_the_value(self):
        head = [0, 0, 0, 0, 7]
        for rest in ([0], [1, 2], [0] * 5, [255]):
            self.assert_refused(InvalidData, 6, INT, INT, head + [6] + rest)
            self.assert_refused(InvalidData, 5, NULL, NULL, head + rest)
            self.assert_refused(InvalidData, 8, STRING, BYTES, head + [4, 97, 98] + rest)
            self.assert_refused(InvalidData, 6, INTS, INTS, head + [0] + rest)

    def test_which_error_is_raised(self):
        # The first octet, ahead of missing octets, ahead of the value, ahead of what stands behind it.
        self.assert_refused(InvalidData, 0, INT, STRING, [1])
        self.assert_refused(InvalidData, 0, INT, STRING, [1, 0, 0, 0, 7, 6, 9])
        self.assert_refused(Truncated, 4, INT, STRING, [0, 0, 0, 0])
        self.assert_refused(Unreadable, 5, INT, STRING, [0, 0, 0, 0, 7])
        self.assert_refused(Unreadable, 5, INT, STRING, [0, 0, 0, 0, 7, 6, 9])
        self.assert_refused(InvalidData, 5, BOOLEAN, BOOLEAN, [0, 0, 0, 0, 7, 2, 9])
        self.assert_refused(Unreadable, 5, NULL, INT, [0, 0, 0, 0, 7])

    def test_messages_that_are_cut_off_anywhere(self):
        schema = parse_schema({"kind": "record", "name": "R", "fields": [
            {"name": "a", "kind": "string"}, {"name": "b", "kind": {"kind": "array", "items": "long"}}, {"name": "c", "kind": "boolean"}]})
        value = ("abc", [1, 1000, -70000], True)
        octets = write_message_of(300, schema, value)
        self.assert_reads(value, schema, schema, octets)
        for length in range(len(octets)):
            self.assert_refused(Truncated, length, schema, schema, octets[:length])
        self.assert_refused(InvalidData, len(octets), schema, schema, octets + [0])

    def test_pairs_of_schemas_by_chance(self):
        chosen = random.Random(210)
        told = {"value": 0, "Truncated": 0, "InvalidData": 0, "Unreadable": 0}
        for writer, reader in some_pairs(chosen, 300):
            value = some_value(chosen, writer)
            number = chosen.choice(NUMBERS)
            message = self.called(write_message_of, number, writer, value)
            self.assertEqual([0] + wide(number, 4) + encode(writer, value), message)
            for _ in range(4):
                octets = list(message)
                word = chosen.randrange(4)
                if word == 0 and len(octets) > 5:
                    octets[chosen.randrange(5, len(octets))] = chosen.randrange(256)
                elif word == 1:
                    del octets[chosen.randrange(5, len(octets) + 1):]
                elif word == 2:
                    octets += [chosen.randrange(256)]
                try:
                    expected, behind = read_as(writer, reader, octets[5:])
                except FormkeeperError as error:
                    self.assert_refused(error.__class__, error.place + 5, writer, reader, octets)
                    told[error.name] += 1
                    continue
                if behind + 5 < len(octets):
                    self.assert_refused(InvalidData, behind + 5, writer, reader, octets)
                    told["InvalidData"] += 1
                else:
                    self.assert_reads(expected, writer, reader, octets)
                    told["value"] += 1
            self.assertEqual(value, decode(writer, message, 5)[0])
        self.assertGreater(min(told.values()), 30)


if __name__ == "__main__":
    unittest.main()
