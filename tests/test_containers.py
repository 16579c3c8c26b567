"""Chapter "Containers": points 17.1 to 17.7."""

import random
import time
import unittest

from formkeeper.canonical import canonical_text
from formkeeper.containers import ContainerWriter, read_container, read_head, save_container
from formkeeper.encoding import decode, encode
from formkeeper.errors import (
    Damaged, FormkeeperError, InvalidContainer, InvalidData, InvalidJson, InvalidSchema, InvalidText, Truncated,
    Unreadable
)
from formkeeper.reading import read_as
from formkeeper.schemas import Schema, parse_schema
from formkeeper.sums import sum_of
from tests.changed_schemas import some_pairs
from tests.disks import wide
from tests.some_schemas import some_schemas, some_value
from tests.support import ProgramTest, strictly

INT, LONG, STRING, BYTES, NULL, BOOLEAN = [
    Schema((name,), {}) for name in ("int", "long", "string", "bytes", "null", "boolean")]
MARK = list(range(100, 116))
HEAD_OF_INT = 32


def octets_of(text):
    return [ord(character) for character in text]


def with_sum(octets):
    return octets + wide(sum_of(octets), 4)


def head_octets(text, mark=MARK):
    """Returns a head (point 17.2) with the text of a schema, or with octets in its place."""
    octets = octets_of(text) if isinstance(text, str) else text
    return with_sum([70, 75, 1] + wide(len(octets), 4) + octets) + mark


def block_octets(many, octets, mark=MARK):
    """Returns a block (point 17.3) with these octets of values."""
    return with_sum(wide(many, 4) + wide(len(octets), 4)) + with_sum(octets) + mark


def container_octets(schema, *blocks, mark=MARK):
    """Returns a container with a block for each list of values."""
    octets = head_octets(canonical_text(schema), mark)
    for values in blocks:
        octets += block_octets(len(values), [octet for value in values for octet in encode(schema, value)], mark)
    return octets


def written(schema, *blocks, mark=MARK):
    writer = ContainerWriter(schema, mark)
    for values in blocks:
        for value in values:
            writer.add(value)
        writer.close_block()
    return writer.octets()


class ContainerTest(ProgramTest):

    def assert_reads(self, values, octets, *reader):
        self.assert_gives(values, read_container, octets, *reader)

    def assert_refused(self, error_class, place, octets, *reader):
        self.assert_raises_at(error_class, place, read_container, octets, *reader)


class WritingTest(ContainerTest):
    """Points 17.1 to 17.3."""

    def test_the_octets_one_by_one(self):
        head = [70, 75, 1, 0, 0, 0, 5, 34, 105, 110, 116, 34]
        head = head + wide(sum_of(head), 4) + MARK
        self.assertEqual(HEAD_OF_INT, len(head))
        block = [0, 0, 0, 3, 0, 0, 0, 4]
        block = block + wide(sum_of(block), 4) + [2, 200, 1, 1] + wide(sum_of([2, 200, 1, 1]), 4) + MARK
        self.assertEqual(head, written(INT))
        self.assertEqual(head + block, written(INT, [1, 100, -1]))
        self.assertEqual(head + block + block, written(INT, [1, 100, -1], [1, 100, -1]))

    def test_methods_return_nothing(self):
        writer = ContainerWriter(INT, MARK)
        self.assertIsNone(self.called(writer.add, 5))
        self.assertIsNone(writer.close_block())
        self.assertIsNone(writer.close_block())

    def test_empty_blocks_are_not_written(self):
        writer = ContainerWriter(INT, MARK)
        writer.close_block()
        self.assertEqual(container_octets(INT), writer.octets())
        writer.close_block()
        writer.add(1)
        writer.close_block()
        writer.close_block()
        writer.add(2)
        self.assertEqual(container_octets(INT, [1], [2]), writer.octets())
        self.assertEqual(container_octets(INT, [1], [2]), writer.octets())

    def test_octets_in_between_and_again(self):
        writer = ContainerWriter(STRING, MARK)
        blocks = []
        for count in range(5):
            blocks.append([f"{count}{at}" for at in range(count + 1)])
            for value in blocks[-1]:
                writer.add(value)
            for _ in range(3):
                self.assertEqual(container_octets(STRING, *blocks), writer.octets())

    def test_values_of_no_octets(self):
        octets = container_octets(NULL, [None, None], [None])
        self.assertEqual(octets, written(NULL, [None, None], [None]))
        self.assertEqual([0, 0, 0, 2, 0, 0, 0, 0], octets[33:41])
        self.assert_reads([None] * 3, octets)
        empty = parse_schema({"kind": "record", "name": "E", "fields": []})
        self.assert_reads([(), ()], written(empty, [(), ()]))

    def test_numbers_of_two_and_three_octets(self):
        for many in (255, 256, 300, 65535, 65536, 70000):
            values = [True] * many
            octets = written(BOOLEAN, values)
            self.assertEqual(wide(many, 4) * 2, octets[36:44])
            self.assertEqual(container_octets(BOOLEAN, values), octets)
            self.assertEqual(values, read_container(octets))
        for many in (253, 254, 65533, 65534, 70000):
            value = [7] * many
            octets = written(BYTES, [value])
            self.assertEqual([0, 0, 0, 1] + wide(len(encode(BYTES, value)), 4), octets[34:42])
            self.assertEqual(container_octets(BYTES, [value]), octets)
            self.assertEqual([value], read_container(octets))
        choice = parse_schema({"kind": "choice", "name": "a." + "N" * 38, "symbols": [f"S{at:037}" for at in range(32)]})
        octets = written(choice, ["S" + "0" * 37])
        self.assertEqual([0, 0, 5], octets[3:6])
        self.assertEqual(container_octets(choice, ["S" + "0" * 37]), octets)

    def test_the_most_values_of_a_block(self):
        octets = written(NULL, [None] * 100000)
        self.assertEqual([0, 1, 134, 160], octets[33:37])
        self.assertEqual([None] * 100000, read_container(octets))

    def test_marks(self):
        for mark in ([0] * 16, [255] * 16, [70, 75, 1] + [0] * 13):
            octets = written(INT, [1, 2], [3], mark=mark)
            self.assertEqual(container_octets(INT, [1, 2], [3], mark=mark), octets)
            self.assert_reads([1, 2, 3], octets)
            self.assert_gives((INT, mark, HEAD_OF_INT), read_head, octets)

    def test_lists_may_be_changed_by_the_caller(self):
        mark, value = list(MARK), [1, 2]
        writer = ContainerWriter(BYTES, mark)
        mark[0] = 0
        writer.add(value)
        value.append(3)
        first = writer.octets()
        first.clear()
        writer.add([4])
        octets = writer.octets()
        self.assertEqual(container_octets(BYTES, [[1, 2]], [[4]]), octets)
        _, found, _ = read_head(octets)
        found.clear()
        values = read_container(octets)
        values[0].clear()
        self.assert_reads([[1, 2], [4]], octets)

    def test_schemas_and_values_by_chance(self):
        chosen = random.Random(170)
        for schema in some_schemas(chosen, 80):
            blocks = [[some_value(chosen, schema) for _ in range(chosen.randrange(1, 4))]
                      for _ in range(chosen.randrange(4))]
            octets = self.called(written, schema, *blocks)
            self.assertEqual(container_octets(schema, *blocks), octets)
            values = [value for block in blocks for value in block]
            self.assert_reads(values, octets)
            self.assert_gives((schema, MARK, len(head_octets(canonical_text(schema)))), read_head, octets)
            self.assertEqual(strictly(values), strictly(save_container(octets)[1]))


class HeadTest(ContainerTest):
    """Points 17.2 and 17.4."""

    def assert_head_refused(self, error_class, place, octets):
        for function in (read_head, read_container, save_container):
            self.assert_raises_at(error_class, place, function, octets)

    def test_what_is_read_of_a_head(self):
        for schema in (INT, parse_schema({"kind": "record", "name": "R", "fields": [{"name": "f", "kind": ["null", "R"]}]})):
            head = head_octets(canonical_text(schema))
            for behind in ([], [0], [70, 75, 1], MARK):
                self.assert_gives((schema, MARK, len(head)), read_head, head + behind)

    def test_the_first_three_octets(self):
        for octets in ([], [70], [71], [70, 75], [70, 0], [0, 0]):
            self.assert_head_refused(Truncated, len(octets), octets)
        rest = head_octets('"int"')[3:]
        for begin, place in (([71, 75, 1], 0), ([70, 76, 1], 1), ([70, 75, 0], 2), ([70, 75, 2], 2), ([0, 0, 0], 0),
                             ([70, 0, 0], 1)):
            for length in (0, 1, 4, 8, len(rest)):
                self.assert_head_refused(InvalidContainer, place, begin + rest[:length])

    def test_a_head_that_is_cut_off_anywhere(self):
        head = head_octets('"int"')
        for length in range(len(head)):
            self.assert_head_refused(Truncated, length, head[:length])
        for length in range(7, len(head)):
            # A wrong sum is told only when the head is complete.
            changed = head[:7] + [0] + head[8:length]
            self.assert_head_refused(Truncated, max(length, 8), changed)

    def test_a_length_that_reaches_behind_the_octets(self):
        head = head_octets('"int"')
        for length in ([0, 0, 0, 6], [0, 1, 0, 0], [255] * 4):
            self.assert_head_refused(Truncated, len(head), head[:3] + length + head[7:])

    def test_the_sum(self):
        head = head_octets('"int"')
        for at in list(range(7, 16)) + [6]:
            for bit in (1, 128):
                changed = head[:at] + [head[at] ^ bit] + head[at + 1:] + [0] * 300
                place = 12 if at != 6 else 7 + (5 ^ bit)
                self.assert_head_refused(Damaged, place, changed)
        changed = list(head)
        changed[20] ^= 1
        self.assertEqual(changed[16:], read_head(changed)[1])

    def test_a_wrong_sum_comes_before_a_wrong_text(self):
        head = head_octets("[37")
        head[10] ^= 1
        self.assert_head_refused(Damaged, 10, head)

    def test_no_text(self):
        self.assert_head_refused(InvalidText, 2, head_octets([34, 105, 37, 110, 13, 34]))
        self.assert_head_refused(InvalidText, 0, head_octets([0]))
        # It is no JSON text either.
        self.assert_head_refused(InvalidText, 3, head_octets([93, 93, 93, 200]))

    def test_no_json(self):
        for text, place in (("", 0), ('"int', 4), ("[1,]", 3), ('"int" x', 6), ("[" * 33, 32)):
            self.assert_head_refused(InvalidJson, place, head_octets(text))

    def test_no_schema(self):
        for text in ("1", "null", '"F"', "[]", '{"kind":"F"}', '["int","int"]', "{}",
                     '{"kind":"record","name":"L","fields":[{"name":"l","kind":"L"}]}'):
            self.assert_head_refused(InvalidSchema, 0, head_octets(text))

    def test_a_text_that_is_not_the_canonical_one(self):
        for text in (' "int"', '{"kind": "int", "doc": "x"}', '{"kind":\n{"kind":\t"int"}}'):
            octets = head_octets(text) + block_octets(2, [2, 4])
            self.assert_gives((INT, MARK, len(head_octets(text))), read_head, octets)
            self.assert_reads([1, 2], octets)
            self.assert_gives(([len(head_octets(text))], [1, 2]), save_container, octets)


class BlocksTest(ContainerTest):
    """Point 17.4."""

    HEAD = head_octets('"int"')

    def test_no_blocks(self):
        self.assert_reads([], self.HEAD)

    def test_containers_that_are_cut_off_anywhere(self):
        blocks = ([1, 2, 300], [4], [5, 6])
        octets = written(INT, *blocks)
        ends = [len(written(INT, *blocks[:count])) for count in range(4)]
        for length in range(len(octets) + 1):
            if length in ends:
                self.assert_reads([1, 2, 300, 4, 5, 6][:(0, 3, 4, 6)[ends.index(length)]], octets[:length])
            else:
                self.assert_refused(Truncated, length, octets[:length])

    def test_octets_behind(self):
        octets = written(INT, [1])
        for count in range(1, 12):
            self.assert_refused(Truncated, len(octets) + count, octets + [0] * count)
        # Twelve zeros are two numbers and their sum.
        self.assert_refused(Truncated, len(octets) + 12, octets + [0] * 12)
        self.assert_refused(Damaged, len(octets) + 8, octets + [0] * 8 + [1, 0, 0, 0])

    def test_each_error(self):
        good = block_octets(2, [2, 4])
        self.assert_reads([1, 2], self.HEAD + good)
        for before, begin in ((self.HEAD, 32), (self.HEAD + good, 32 + len(good))):
            for at in range(len(good)):
                place, error_class = begin + 8, Damaged
                if at >= 12:
                    place = begin + 14
                if at >= 18:
                    place, error_class = begin + 18, InvalidContainer
                for bit in (1, 4, 128):
                    changed = good[:at] + [good[at] ^ bit] + good[at + 1:]
                    self.assert_refused(error_class, place, before + changed)

    def test_the_first_error_of_a_block_is_raised(self):
        """The block has all errors at first; they are taken away one after the other."""
        numbers = wide(0, 4) + wide(2, 4)
        wrong = wide(sum_of(numbers) ^ 1, 4)
        right = wide(sum_of(numbers), 4)
        values = [128, 128]
        end = wide(sum_of(values) ^ 1, 4)
        begin = len(self.HEAD)
        other = MARK[:15] + [0]
        self.assert_refused(Truncated, begin + 11, self.HEAD + numbers + wrong[:3])
        self.assert_refused(Damaged, begin + 8, self.HEAD + numbers + wrong + values + end + other[:15])
        self.assert_refused(Truncated, begin + 33, self.HEAD + numbers + right + values + end + other[:15])
        self.assert_refused(Damaged, begin + 14, self.HEAD + numbers + right + values + end + other)
        self.assert_refused(InvalidContainer, begin + 18, self.HEAD + block_octets(0, values, other))
        self.assert_refused(InvalidContainer, begin, self.HEAD + block_octets(0, values))
        self.assert_refused(Damaged, begin + 12, self.HEAD + block_octets(1, values))

    def test_the_first_block_with_an_error(self):
        good, begin = block_octets(1, [2]), len(self.HEAD)
        one, two = block_octets(0, [2]), block_octets(2, [2])
        self.assert_refused(InvalidContainer, begin, self.HEAD + one + two)
        self.assert_refused(Damaged, begin + 12, self.HEAD + two + one)
        self.assert_refused(InvalidContainer, begin + len(good), self.HEAD + good + one + two)
        self.assert_refused(Damaged, begin + len(good) + 12, self.HEAD + good + two + one)

    def test_numbers_of_values_that_are_wrong(self):
        begin = len(self.HEAD)
        for many, octets in ((1, [2, 4]), (3, [2, 4]), (1, []), (2, [2, 128]), (1, [128]), (99999, [2]), (100000, [2]),
                             (1, [128, 0]), (1, [128] * 10 + [1]), (1, [255, 255, 255, 255, 16])):
            self.assert_refused(Damaged, begin + 12, self.HEAD + block_octets(many, octets))
        for many in (0, 100001, 2 ** 31, 2 ** 32 - 1):
            for octets in ([], [2], [128]):
                self.assert_refused(InvalidContainer, begin, self.HEAD + block_octets(many, octets))

    def test_numbers_of_values_of_no_octets(self):
        head = head_octets('"null"')
        self.assertEqual([None] * 100000, read_container(head + block_octets(100000, [])))
        self.assert_refused(InvalidContainer, len(head), head + block_octets(100001, []))
        self.assert_refused(InvalidContainer, len(head), head + block_octets(0, []))
        self.assert_refused(Damaged, len(head) + 12, head + block_octets(5, [0]))

    def test_values_do_not_reach_behind_their_block(self):
        """The octets behind the values would be a part of the last one."""
        head = head_octets('"bytes"')
        octets = head + block_octets(2, [2, 9, 40]) + block_octets(1, [2, 9])
        self.assert_refused(Damaged, len(head) + 12, octets)

    def test_values_that_nest_too_deep(self):
        schema = parse_schema({"kind": "record", "name": "R", "fields": [{"name": "f", "kind": ["null", "R"]}]})
        head = head_octets(canonical_text(schema))
        self.assertEqual(1, len(read_container(head + block_octets(1, [2] * 31 + [0]))))
        self.assert_refused(Damaged, len(head) + 12, head + block_octets(1, [2] * 32 + [0]))

    def test_arrays_in_several_blocks(self):
        head = head_octets('{"kind":"array","items":"int"}')
        self.assert_reads([[1, 2, 3], []], head + block_octets(2, [2, 2, 3, 4, 4, 6, 0, 0]))


class ReadersTest(ContainerTest):
    """Point 17.5."""

    OLD = parse_schema({"kind": "record", "name": "P", "fields": [{"name": "x", "kind": "long"}]})
    NEW = parse_schema({"kind": "record", "name": "Q", "aliases": ["P"], "fields": [
        {"name": "list", "kind": {"kind": "array", "items": "int"}, "default": [1, 2]},
        {"name": "y", "kind": ["null", "int"], "aliases": ["x"]}]})
    BIG = 2 ** 31

    def test_readers_of_other_schemas(self):
        octets = written(self.OLD, [(1,), (-2,)], [(3,)])
        self.assert_reads([([1, 2], (1, 1)), ([1, 2], (1, -2)), ([1, 2], (1, 3))], octets, self.NEW)
        self.assert_reads([(1,), (-2,), (3,)], octets, self.OLD)
        self.assert_reads([(1,), (-2,), (3,)], octets, None)
        self.assert_reads([], written(self.OLD), STRING)

    def test_the_values_share_nothing(self):
        values = read_container(written(self.OLD, [(1,), (2,)]), self.NEW)
        values[0][0].append(9)
        self.assertEqual([([1, 2, 9], (1, 1)), ([1, 2], (1, 2))], values)

    def test_the_place_of_a_value_that_is_not_read(self):
        head = len(head_octets('"long"'))
        for blocks, place in (([[self.BIG]], head + 12), ([[1, 100, self.BIG, self.BIG]], head + 15),
                              ([[1], [2, self.BIG]], head + 33 + 13)):
            octets = written(LONG, *blocks)
            self.assert_refused(Unreadable, place, octets, INT)
            self.assertEqual([value for block in blocks for value in block], read_container(octets))
        schema = parse_schema({"kind": "record", "name": "R", "fields": [
            {"name": "a", "kind": "string"}, {"name": "b", "kind": "long"}]})
        other = parse_schema({"kind": "record", "name": "R", "fields": [
            {"name": "a", "kind": "string"}, {"name": "b", "kind": "int"}]})
        octets = written(schema, [("abc", 1), ("d", self.BIG)])
        self.assert_refused(Unreadable, len(head_octets(canonical_text(schema))) + 12 + 5 + 2, octets, other)
        # Nothing of the value is looked at.
        self.assert_refused(Unreadable, len(head_octets(canonical_text(schema))) + 12, octets, STRING)

    def test_values_of_no_octets(self):
        head = len(head_octets('"null"'))
        octets = written(NULL, [None, None])
        self.assert_refused(Unreadable, head + 12, octets, INT)
        self.assert_reads([(0, None)] * 2, octets, Schema(("union", (("null",),)), {}))

    def test_an_error_of_a_later_value_of_the_same_block_comes_first(self):
        head = head_octets('"long"')
        big = encode(LONG, self.BIG)
        for many, octets in ((2, big + [128]), (2, big), (1, big + [0]), (3, big + [2])):
            self.assert_refused(Damaged, len(head) + 12, head + block_octets(many, octets), INT)
        self.assert_refused(InvalidContainer, len(head), head + block_octets(0, big), INT)
        self.assert_refused(InvalidContainer, len(head) + 21, head + block_octets(1, big, [0] * 16), INT)

    def test_an_error_of_a_later_block_does_not(self):
        head = head_octets('"long"')
        big = block_octets(1, encode(LONG, self.BIG))
        for rest in ([0], block_octets(1, [128]), block_octets(0, [])):
            self.assert_refused(Unreadable, len(head) + 12, head + big + rest, INT)
            good = block_octets(1, [2])
            self.assert_refused(Unreadable, len(head) + len(good) + 12, head + good + big + rest, INT)

    def test_errors_of_the_head_come_first(self):
        self.assert_refused(Truncated, 2, [70, 75], INT)
        self.assert_refused(InvalidSchema, 0, head_octets("1"), INT)

    def test_pairs_of_schemas_by_chance(self):
        chosen = random.Random(171)
        many_read = many_unread = 0
        for writer, reader in some_pairs(chosen, 200):
            values = [some_value(chosen, writer) for _ in range(3)]
            octets = written(writer, values[:2], values[2:])
            expected, error = [], None
            at = len(head_octets(canonical_text(writer))) + 12
            for index, value in enumerate(values):
                if index == 2:
                    at += 32
                try:
                    found, behind = read_as(writer, reader, octets, at)
                except FormkeeperError as raised:
                    self.assertIs(Unreadable, raised.__class__)
                    error = raised
                    break
                self.assertEqual(behind, decode(writer, octets, at)[1])
                expected.append(found)
                at = behind
            if error is None:
                many_read += 1
                self.assert_reads(expected, octets, reader)
            else:
                many_unread += 1
                self.assert_refused(Unreadable, error.place, octets, reader)
        self.assertGreater(min(many_read, many_unread), 20)


class SavingTest(ContainerTest):
    """Points 17.6 and 17.7."""

    BLOCKS = ([1, 2], [300], [-4, 5, 6], [7], [8])

    def setUp(self):
        self.octets = written(INT, *self.BLOCKS)
        self.ends = [len(written(INT, *self.BLOCKS[:count])) for count in range(6)]

    def assert_saves(self, places, values, octets):
        self.assert_gives((places, values), save_container, octets)

    def assert_saves_blocks(self, indexes, octets):
        """Just the blocks with these indexes are saved."""
        self.assert_saves([self.ends[at] for at in indexes], [value for at in indexes for value in self.BLOCKS[at]], octets)

    def test_an_undamaged_container(self):
        self.assert_saves_blocks(range(5), self.octets)
        self.assert_saves([], [], self.octets[:self.ends[0]])

    def test_every_octet_changed(self):
        """A changed mark of the head or of a block is lost for the block behind it only if that one begins behind it."""
        for at in range(HEAD_OF_INT - 16, len(self.octets)):
            changed = list(self.octets)
            changed[at] ^= 64
            if at < HEAD_OF_INT:
                # The head tells another mark, so nothing is found.
                self.assert_saves([], [], changed)
                continue
            damaged = [index for index in range(5) if self.ends[index] <= at < self.ends[index + 1]][0]
            lost = [damaged]
            if at >= self.ends[damaged + 1] - 16:
                lost.append(damaged + 1)
            self.assert_saves_blocks([index for index in range(5) if index not in lost], changed)

    def test_bursts_of_32_bits(self):
        """In each block at most one burst: just those blocks are taken none of whose octets were changed and ahead of
        which the mark was not changed."""
        chosen = random.Random(172)
        for _ in range(400):
            changed = list(self.octets)
            touched, marks = set(), set()
            for index in range(5):
                if chosen.randrange(2):
                    begin, end = 8 * self.ends[index], 8 * self.ends[index + 1]
                    length = chosen.randrange(1, 33)
                    bit = chosen.randrange(begin, end - length + 1)
                    burst = 1 << length - 1 | chosen.randrange(1 << length) | 1
                    for at in range(length):
                        if burst >> at & 1:
                            changed[(bit + at) // 8] ^= 128 >> (bit + at) % 8
                    touched.add(index)
                    if changed[self.ends[index + 1] - 16:self.ends[index + 1]] != MARK:
                        marks.add(index + 1)
            self.assert_saves_blocks([index for index in range(5) if index not in touched | marks], changed)

    def test_a_container_that_is_cut_off_anywhere(self):
        for length in range(HEAD_OF_INT, len(self.octets)):
            whole = max(index for index in range(6) if self.ends[index] <= length)
            self.assert_saves_blocks(range(whole), self.octets[:length])

    def test_octets_in_front_of_blocks(self):
        """Only behind a mark a block is looked for."""
        one, two = self.octets[self.ends[0]:self.ends[1]], self.octets[self.ends[1]:self.ends[2]]
        head = self.octets[:HEAD_OF_INT]
        self.assert_saves([HEAD_OF_INT + 3 + len(one)], [300], head + [1, 2, 3] + one + two)
        self.assert_saves([HEAD_OF_INT + 19], [1, 2], head + [1, 2, 3] + MARK + one)
        self.assert_saves([HEAD_OF_INT + 32], [1, 2], head + MARK + MARK + one)
        self.assert_saves([], [], head + [1, 2, 3] + MARK[:15] + one[:-16])
        self.assert_saves([], [], head + [1, 2, 3] + MARK)

    def test_parts_of_marks(self):
        one = self.octets[self.ends[0]:self.ends[1]]
        head = self.octets[:HEAD_OF_INT]
        for before in (MARK[:15], MARK[:1], MARK[:8] + MARK[:4], [MARK[0]] * 20):
            self.assert_saves([HEAD_OF_INT + len(before) + 16], [1, 2], head + before + MARK + one)

    def test_marks_that_reach_over_each_other(self):
        """The mark is found where it begins first."""
        mark = [5, 6] * 8
        block = block_octets(1, [2], mark)
        head = head_octets('"int"', mark)
        for count in (1, 2, 7, 9):
            self.assert_saves([], [], head + [5, 6] * count + mark + block)
        for count in (0, 8, 16):
            octets = head + [5, 6] * count + mark + block
            self.assert_saves([len(octets) - len(block)], [1], octets)
        octets = head + [5] + mark + block
        self.assert_saves([len(octets) - len(block)], [1], octets)

    def test_marks_inside_of_values(self):
        value = [1] + MARK + [2]
        octets = written(BYTES, [value, MARK], [[3]])
        self.assert_reads([value, MARK, [3]], octets)
        head = len(written(BYTES))
        first = len(written(BYTES, [value, MARK]))
        self.assert_saves([head, first], [value, MARK, [3]], octets)
        for at in (head, head + 9, first - 20):
            changed = list(octets)
            changed[at] ^= 1
            self.assert_saves([first], [[3]], changed)

    def test_blocks_inside_of_values(self):
        """A block that stands behind a mark is taken, also if it was a part of a value."""
        inner = block_octets(1, [2, 9])
        octets = written(BYTES, [MARK + inner], [[3]])
        head, last = len(written(BYTES)), len(written(BYTES, [MARK + inner]))
        self.assert_saves([head, last], [MARK + inner, [3]], octets)
        changed = list(octets)
        changed[head] ^= 1
        self.assert_saves([head + 12 + 1 + 16, last], [[9], [3]], changed)

    def test_a_block_whose_number_of_octets_reaches_into_others(self):
        begin = self.ends[1]
        for many_octets in list(range(3, 90)) + [2 ** 32 - 1]:
            changed = self.octets[:begin] + with_sum(wide(1, 4) + wide(many_octets, 4)) + self.octets[begin + 12:]
            self.assert_saves_blocks([0, 2, 3, 4], changed)
        # It ends where the next block ends, with a right sum; so that one has a wrong sum.
        reach = self.octets[begin + 12:self.ends[3] - 20]
        changed = self.octets[:begin] + block_octets(1, reach) + self.octets[self.ends[3]:]
        self.assertEqual(len(self.octets), len(changed))
        self.assert_saves_blocks([0, 3, 4], changed)

    def test_each_error_of_a_block(self):
        begin, end = self.ends[2], self.ends[3]
        for block in (block_octets(0, [7, 10, 12]), block_octets(2, [7, 10, 12]), block_octets(4, [7, 10, 12]),
                      block_octets(100001, [7, 10, 12])):
            self.assert_saves_blocks([0, 1, 3, 4], self.octets[:begin] + block + self.octets[end:])
        other = block_octets(3, [7, 10, 12], [0] * 16)
        self.assert_saves_blocks([0, 1, 4], self.octets[:begin] + other + self.octets[end:])

    def test_damage_at_the_beginning_in_the_middle_and_at_the_end(self):
        for damaged in ([0], [2], [4], [0, 1], [3, 4], [0, 2, 4], [1, 3], [0, 1, 2, 3, 4]):
            changed = list(self.octets)
            for index in damaged:
                changed[self.ends[index] + 13] ^= 255
            self.assert_saves_blocks([index for index in range(5) if index not in damaged], changed)

    def test_nothing_left_to_take(self):
        for rest in ([0], [0] * 40, MARK, MARK * 3, [9] * 100, MARK + [0] * 12):
            self.assert_saves([], [], self.octets[:HEAD_OF_INT] + rest)

    def test_the_lists_are_the_callers_own(self):
        octets = written(BYTES, [[1]])
        places, values = save_container(octets)
        places.clear()
        values[0].clear()
        self.assert_saves([len(written(BYTES))], [[1]], octets)


class TimeTest(ContainerTest):
    """No function takes time that grows out of bounds."""

    def test_many_values_and_many_octets(self):
        began = time.process_time()
        values = list(range(100000))
        octets = written(LONG, values, [7], values)
        self.assertEqual(values + [7] + values, read_container(octets))
        self.assertEqual(values, read_container(written(LONG, values), INT))
        changed = list(octets)
        changed[50] ^= 1
        self.assertEqual([7] + values, save_container(changed)[1])
        mark = [0] * 16
        value = [0] * 1000000
        octets = written(BYTES, [value], [value], mark=mark)
        self.assertEqual([value, value], read_container(octets))
        changed = list(octets)
        changed[60] ^= 1
        self.assertEqual([value], save_container(changed)[1])
        self.assertLess(time.process_time() - began, 120)


if __name__ == "__main__":
    unittest.main()
