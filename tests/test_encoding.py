"""Chapter 06: values as octets."""

import itertools
import random
import unittest

from formkeeper.encoding import decode, encode, read_number, write_number
from formkeeper.errors import FormkeeperError, InvalidData, Truncated
from formkeeper.schemas import Schema
from formkeeper.values import is_value
from tests.some_schemas import some_schemas, some_value
from tests.support import ProgramTest, strictly

NAMES = {
    "F0": ("fixed", "F0", 0, ()),
    "F3": ("fixed", "F3", 3, ()),
    "C": ("choice", "C", ("A", "B", "D"), "B", ()),
    "E": ("record", "E", (), ()),
    "P": ("record", "P", (("x", ("int",), None, ()), ("y", ("string",), None, ()), ("z", ("boolean",), None, ())), ()),
    "L": ("record", "L", (("next", ("union", (("null",), ("named", "L"))), None, ()),), ()),
    "T": ("record", "T", (("t", ("array", ("named", "T")), None, ()),), ()),
}


def schema_of(shape):
    return Schema(shape, NAMES)


def octets_of_u(u, count=None):
    """Returns the octets of a `u` of point 06.1, in as many octets, also too many."""
    octets = []
    while u >= 128 or (count is not None and len(octets) < count - 1):
        octets.append(128 + u % 128)
        u //= 128
    return octets + [u]


class NumbersTest(ProgramTest):
    """Point 06.1, and the numbers of point 06.4."""

    def assert_number(self, octets, n):
        self.assert_gives(octets, write_number, n)
        self.assert_gives((n, len(octets)), read_number, octets, 0)
        self.assert_gives((n, len(octets) + 2), read_number, [200, 3] + octets + [200, 0], 2)
        for length in range(len(octets)):
            self.assert_raises_at(Truncated, length, read_number, octets[:length], 0)
            self.assert_raises_at(Truncated, length + 1, read_number, [1] + octets[:length], 1)

    def test_examples_of_the_document(self):
        self.assert_gives([5], write_number, -3)
        self.assert_gives([200, 1], write_number, 100)
        self.assert_gives((100, 3), read_number, [9, 200, 1, 7], 1)

    def test_small_numbers(self):
        for n in range(64):
            self.assert_number([2 * n], n)
            self.assert_number([2 * n + 1], -n - 1)

    def test_numbers_of_two_octets(self):
        for octets, n in (([128, 1], 64), ([129, 1], -65), ([130, 1], 65), ([254, 127], 8191), ([255, 127], -8192)):
            self.assert_number(octets, n)

    def test_each_border_of_a_number_of_octets(self):
        for count in range(1, 10):
            end = 128 ** count // 2
            self.assert_number([254] + [255] * (count - 2) + [127] if count > 1 else [126], end - 1)
            self.assert_number([255] * (count - 1) + [127], -end)
            self.assert_number([128] * count + [1], end)
            self.assert_number([129] + [128] * (count - 1) + [1], -end - 1)

    def test_the_ends(self):
        self.assert_number([254] + [255] * 8 + [1], 2 ** 63 - 1)
        self.assert_number([255] * 9 + [1], -2 ** 63)
        self.assert_number([252] + [255] * 8 + [1], 2 ** 63 - 2)
        self.assert_number([253] + [255] * 8 + [1], 1 - 2 ** 63)

    def test_there_and_back(self):
        chosen = random.Random(10)
        for bits in range(64):
            between = chosen.randrange(2 ** bits)
            for n in (2 ** bits, 2 ** bits - 1, -2 ** bits, -2 ** bits - 1, between, -between):
                if -2 ** 63 <= n < 2 ** 63:
                    self.assert_number(octets_of_u(2 * n if n >= 0 else -2 * n - 1), n)

    def test_more_than_10_octets(self):
        for octets in ([128] * 10, [255] * 10, [128] * 10 + [0], [128] * 10 + [1], [255] * 20, [128] * 9 + [129, 0]):
            self.assert_raises_at(InvalidData, 0, read_number, octets, 0)
            self.assert_raises_at(InvalidData, 2, read_number, [1, 128] + octets, 2)
        for octets in ([128] * 9, [255] * 9):
            self.assert_raises_at(Truncated, 9, read_number, octets, 0)

    def test_a_last_octet_0(self):
        self.assert_gives((0, 1), read_number, [0], 0)
        for count in range(1, 10):
            self.assert_raises_at(InvalidData, 0, read_number, [128] * count + [0], 0)
            self.assert_raises_at(InvalidData, 1, read_number, [0] + [255] * count + [0, 1], 1)

    def test_a_u_of_2_to_the_64_or_more(self):
        for u in (2 ** 64, 2 ** 64 + 1, 2 ** 65, 3 * 2 ** 63, 128 ** 10 - 1):
            self.assertEqual(10, len(octets_of_u(u)))
            self.assert_raises_at(InvalidData, 0, read_number, octets_of_u(u), 0)
            self.assert_raises_at(InvalidData, 3, read_number, [0, 0, 0] + octets_of_u(u) + [0], 3)
        for last in range(2, 128):
            self.assert_raises_at(InvalidData, 0, read_number, [128] * 9 + [last], 0)

    def test_behind_the_end(self):
        self.assert_raises_at(Truncated, 0, read_number, [], 0)
        self.assert_raises_at(Truncated, 2, read_number, [1, 2], 2)


class EncodingTest(ProgramTest):
    """Points 06.2, 06.3 and 06.5."""

    def assert_encoding(self, octets, shape, value):
        schema = schema_of(shape)
        self.assert_gives(octets, encode, schema, value)
        self.assert_gives((value, len(octets)), decode, schema, octets)
        self.assert_gives((value, len(octets)), decode, schema, octets + [255, 7])
        self.assert_gives((value, len(octets) + 3), decode, schema, [128, 1, 0] + octets, 3)
        self.assert_gives((value, len(octets) + 1), decode, schema, [128] + octets + [255], 1)

    def assert_decodes(self, value, shape, octets):
        self.assert_gives((value, len(octets)), decode, schema_of(shape), octets)
        self.assert_gives((value, len(octets) + 2), decode, schema_of(shape), [7, 255] + octets + [0, 1], 2)

    def test_examples_of_the_document(self):
        schema = Schema(("array", ("int",)), {})
        self.assert_gives([4, 2, 1, 0], encode, schema, [1, -1])
        self.assert_gives(([1, -1], 5), decode, schema, [3, 4, 2, 1, 0, 9])
        self.assert_raises_at(InvalidData, 0, decode, Schema(("boolean",), {}), [2])

    def test_plain_shapes(self):
        self.assert_encoding([], ("null",), None)
        self.assert_encoding([0], ("boolean",), False)
        self.assert_encoding([1], ("boolean",), True)
        for kind in ("int", "long"):
            for octets, n in (([0], 0), ([1], -1), ([2], 1), ([128, 1], 64), ([254, 255, 255, 255, 15], 2 ** 31 - 1),
                              ([255, 255, 255, 255, 15], -2 ** 31)):
                self.assert_encoding(octets, (kind,), n)
        self.assert_encoding([128, 128, 128, 128, 16], ("long",), 2 ** 31)
        self.assert_encoding([254] + [255] * 8 + [1], ("long",), 2 ** 63 - 1)
        self.assert_encoding([255] * 9 + [1], ("long",), -2 ** 63)
        self.assert_encoding([0], ("bytes",), [])
        self.assert_encoding([6, 0, 255, 128], ("bytes",), [0, 255, 128])
        self.assert_encoding([128, 1] + [7] * 64, ("bytes",), [7] * 64)
        self.assert_encoding([0], ("string",), "")
        self.assert_encoding([8, 97, 10, 9, 126], ("string",), "a\n\t~")
        self.assert_encoding([128, 1] + [65] * 64, ("string",), "A" * 64)

    def test_fixed_and_choices(self):
        self.assert_encoding([], ("named", "F0"), [])
        self.assert_encoding([0, 255, 7], ("named", "F3"), [0, 255, 7])
        self.assert_encoding([0], ("named", "C"), "A")
        self.assert_encoding([2], ("named", "C"), "B")
        self.assert_encoding([4], ("named", "C"), "D")
        many = Schema(("named", "M"), {"M": ("choice", "M", tuple(f"S{at}" for at in range(32)), None, ())})
        for at in range(32):
            self.assert_gives([2 * at], encode, many, f"S{at}")
            self.assert_gives((f"S{at}", 1), decode, many, [2 * at])

    def test_unions(self):
        shape = ("union", (("null",), ("int",), ("string",), ("array", ("int",))))
        self.assert_encoding([0], shape, (0, None))
        self.assert_encoding([2, 10], shape, (1, 5))
        self.assert_encoding([4, 2, 65], shape, (2, "A"))
        self.assert_encoding([6, 0], shape, (3, []))
        self.assert_encoding([0, 1], ("union", (("boolean",),)), (0, True))

    def test_records(self):
        self.assert_encoding([], ("named", "E"), ())
        self.assert_encoding([1, 2, 65, 1], ("named", "P"), (-1, "A", True))
        self.assert_encoding([2, 2, 0], ("named", "L"), ((1, ((1, ((0, None),)),)),))

    def test_arrays(self):
        self.assert_encoding([0], ("array", ("int",)), [])
        self.assert_encoding([2, 10, 0], ("array", ("int",)), [5])
        self.assert_encoding([6, 1, 2, 3, 0], ("array", ("int",)), [-1, 1, -2])
        self.assert_encoding([6, 0], ("array", ("null",)), [None] * 3)
        self.assert_encoding([4, 0, 2, 2, 0, 0], ("array", ("array", ("int",))), [[], [1]])
        self.assert_encoding([128, 1] + [2] * 64 + [0], ("array", ("int",)), [1] * 64)
        self.assert_encoding([160, 156, 1] + [1] * 10000 + [0], ("array", ("boolean",)), [True] * 10000)

    def test_maps(self):
        self.assert_encoding([0], ("map", ("int",)), {})
        self.assert_encoding([2, 2, 97, 10, 0], ("map", ("int",)), {"a": 5})
        self.assert_encoding([4, 2, 98, 2, 0, 4, 0], ("map", ("int",)), {"b": 1, "": 2})
        self.assert_encoding([4, 0, 2, 98, 0], ("map", ("null",)), {"": None, "b": None})
        self.assert_encoding([2, 2, 97, 2, 2, 98, 1, 0, 0], ("map", ("map", ("boolean",))), {"a": {"b": True}})

    def test_the_order_of_the_pairs(self):
        schema = schema_of(("map", ("int",)))
        for keys in (["a", "b", "c"], ["c", "a", "b"], ["b", "a", "c"]):
            octets = encode(schema, {key: 0 for key in keys})
            self.assertEqual(keys, list(decode(schema, octets)[0]))

    def test_arrays_in_several_blocks(self):
        shape = ("array", ("int",))
        self.assert_decodes([1, 2, 3], shape, [2, 2, 4, 4, 6, 0])
        self.assert_decodes([1, 2, 3], shape, [2, 2, 2, 4, 2, 6, 0])
        self.assert_decodes([1, 2, 3], shape, [3, 4, 2, 4, 2, 6, 0])
        self.assert_decodes([1, 2, 3], shape, [5, 6, 2, 4, 6, 0])
        self.assert_decodes([1, 2, 3], shape, [2, 2, 3, 4, 4, 6, 0])
        self.assert_decodes([1, -2, 64], shape, [5, 8, 2, 3, 128, 1, 0])
        self.assert_decodes([[], [1]], ("array", shape), [3, 8, 0, 2, 2, 0, 0])
        self.assert_decodes([None] * 5, ("array", ("null",)), [5, 0, 4, 0])

    def test_maps_in_several_blocks(self):
        shape = ("map", ("int",))
        self.assert_decodes({"b": 1, "a": 2}, shape, [2, 2, 98, 2, 2, 2, 97, 4, 0])
        self.assert_decodes({"b": 1, "a": 2}, shape, [1, 6, 2, 98, 2, 1, 6, 2, 97, 4, 0])
        self.assert_decodes({"b": 1, "a": 2}, shape, [3, 12, 2, 98, 2, 2, 97, 4, 0])
        self.assert_decodes({"": None}, ("map", ("null",)), [1, 2, 0, 0])

    def test_more_than_10000_items_in_several_blocks(self):
        block = [160, 156, 1] + [1] * 10000
        self.assert_decodes([True] * 20000, ("array", ("boolean",)), block * 2 + [0])
        counted = [159, 156, 1] + write_number(10000) + [1] * 10000
        self.assert_decodes([True] * 30000, ("array", ("boolean",)), counted + block + counted + [0])
        self.assert_decodes([None] * 20000, ("array", ("null",)), [160, 156, 1, 159, 156, 1, 0, 0])

    def test_there_and_back(self):
        chosen = random.Random(11)
        for schema in some_schemas(chosen, 150):
            encodings = []
            for _ in range(4):
                value = some_value(chosen, schema)
                octets = self.called(encode, schema, value)
                self.assert_gives((value, len(octets)), decode, schema, octets)
                self.assert_gives((value, 2 + len(octets)), decode, schema, [1, 200] + octets + [3, 128], 2)
                encodings.append((strictly(value), octets))
            for value, octets in encodings:
                for other, other_octets in encodings:
                    same = other_octets[:len(octets)] == octets
                    self.assertEqual(value == other, same)

    def test_the_value_shares_nothing_with_the_octets(self):
        octets = [1, 2, 3]
        value, _ = decode(schema_of(("named", "F3")), octets)
        value.append(4)
        encode(schema_of(("named", "F3")), octets).append(5)
        self.assertEqual([1, 2, 3], octets)


class DecodingErrorsTest(ProgramTest):
    """Point 06.4."""

    def assert_fault(self, error_class, place, shape, octets):
        """The error is raised at its place, wherever the octets begin."""
        self.assert_raises_at(error_class, place, decode, schema_of(shape), octets)
        for ahead in ([0], [255, 1, 128]):
            self.assert_raises_at(error_class, place + len(ahead), decode, schema_of(shape), ahead + octets, len(ahead))

    def assert_truncated(self, shape, octets):
        self.assert_fault(Truncated, len(octets), shape, octets)

    def assert_invalid(self, place, shape, octets):
        """The error is decided by these octets: what stands behind them makes no difference."""
        for behind in ([], [0], [255, 255, 0, 7]):
            self.assert_fault(InvalidData, place, shape, octets + behind)

    def assert_decided_by_the_last(self, place, shape, octets):
        """The error is decided by the last of the octets."""
        self.assert_invalid(place, shape, octets)
        for length in range(len(octets)):
            self.assert_truncated(shape, octets[:length])

    def test_octets_that_are_missing(self):
        for shape, octets in (
            (("boolean",), [1]), (("int",), [128, 128, 1]), (("long",), [129, 255, 1]), (("bytes",), [8, 1, 2, 3, 4]),
            (("bytes",), [128, 1] + [7] * 64), (("string",), [8, 65, 66, 67, 68]), (("named", "F3"), [1, 2, 3]),
            (("named", "C"), [4]), (("named", "P"), [128, 1, 4, 65, 66, 0]), (("union", (("null",), ("int",))), [2, 128, 1]),
            (("array", ("int",)), [4, 128, 1, 2, 0]), (("array", ("int",)), [3, 6, 128, 1, 2, 2, 5, 0]),
            (("array", ("named", "F3")), [2, 1, 2, 3, 0]), (("array", ("null",)), [6, 0]),
            (("map", ("int",)), [2, 4, 65, 66, 2, 1, 4, 0, 7, 0]), (("map", ("null",)), [4, 2, 65, 0, 0]),
            (("named", "L"), [2, 2, 2, 0]), (("named", "T"), [2, 4, 0, 0, 0, 0]),
        ):
            self.assert_gives(len(octets), lambda: decode(schema_of(shape), octets)[1])
            for length in range(len(octets)):
                self.assert_truncated(shape, octets[:length])

    def test_nothing_is_missing_of_nothing(self):
        for shape, value in ((("null",), None), (("named", "F0"), []), (("named", "E"), ())):
            self.assert_gives((value, 0), decode, schema_of(shape), [])
            self.assert_gives((value, 2), decode, schema_of(shape), [1, 2], 2)

    def test_numbers_of_octets_beyond_the_end(self):
        for count in (3, 64, 2 ** 31, 2 ** 62, 2 ** 63 - 1):
            self.assert_truncated(("bytes",), write_number(count) + [1, 2])
            self.assert_truncated(("string",), write_number(count) + [65, 66])
        self.assert_truncated(("string",), [6, 1, 200])

    def test_numbers_that_are_none(self):
        for shape in (("int",), ("long",), ("bytes",), ("string",), ("named", "C"), ("union", (("null",), ("int",))),
                      ("array", ("int",)), ("map", ("int",))):
            self.assert_decided_by_the_last(0, shape, [128] * 10)
            self.assert_decided_by_the_last(0, shape, [255] * 9 + [2])
            self.assert_decided_by_the_last(0, shape, [128, 0])
            self.assert_decided_by_the_last(0, shape, [130, 128, 0])
            self.assert_decided_by_the_last(0, shape, [128] * 9 + [127])
        self.assert_decided_by_the_last(1, ("named", "P"), [2, 130, 0])
        self.assert_decided_by_the_last(2, ("array", ("int",)), [4, 2, 130, 0])
        self.assert_decided_by_the_last(1, ("map", ("int",)), [4, 130, 0])
        self.assert_decided_by_the_last(3, ("map", ("int",)), [4, 2, 65, 130, 0])
        self.assert_decided_by_the_last(1, ("array", ("int",)), [1, 130, 0])
        self.assert_decided_by_the_last(2, ("array", ("int",)), [2, 2, 130, 0])

    def test_an_int_out_of_range(self):
        for n in (2 ** 31, -2 ** 31 - 1, 2 ** 63 - 1, -2 ** 63):
            self.assert_decided_by_the_last(0, ("int",), write_number(n))
            self.assert_decided_by_the_last(1, ("array", ("int",)), [2] + write_number(n))
            self.assert_gives((n, len(write_number(n))), decode, schema_of(("long",)), write_number(n))

    def test_a_boolean_that_is_neither_0_nor_1(self):
        for octet in (2, 3, 127, 128, 129, 255):
            self.assert_decided_by_the_last(0, ("boolean",), [octet])
            self.assert_decided_by_the_last(2, ("array", ("boolean",)), [4, 1, octet])

    def test_a_negative_number_of_octets(self):
        for n in (-1, -2, -64, -65, -2 ** 63):
            for shape in (("bytes",), ("string",)):
                self.assert_decided_by_the_last(0, shape, write_number(n))
            self.assert_decided_by_the_last(1, ("map", ("int",)), [2] + write_number(n))

    def test_indexes_that_are_none(self):
        for n in (-1, -3, 3, 4, 64, 2 ** 63 - 1, -2 ** 63):
            self.assert_decided_by_the_last(0, ("named", "C"), write_number(n))
            self.assert_decided_by_the_last(0, ("union", (("null",), ("int",), ("string",))), write_number(n))
            self.assert_decided_by_the_last(1, ("array", ("named", "C")), [2] + write_number(n))
        self.assert_decided_by_the_last(0, ("union", (("null",),)), [2])
        self.assert_decided_by_the_last(0, ("union", (("null",),)), [1])

    def test_an_octet_that_is_the_code_of_no_character(self):
        for octet in (0, 8, 11, 13, 31, 37, 127, 128, 255):
            self.assert_fault(InvalidData, 1, ("string",), [2, octet])
            self.assert_fault(InvalidData, 3, ("string",), [6, 65, 66, octet, 255])
            self.assert_fault(InvalidData, 2, ("string",), [6, 65, octet, 0])
            self.assert_fault(InvalidData, 4, ("named", "P"), [2, 8, 65, 66, octet, 66, 9])
            self.assert_fault(InvalidData, 3, ("map", ("int",)), [2, 4, 65, octet, 128, 0])

    def test_the_first_one_is_told_when_all_octets_of_the_string_are_there(self):
        self.assert_decided_by_the_last(2, ("string",), [8, 65, 0, 37, 65])
        self.assert_decided_by_the_last(2, ("string",), [128, 1] + [200] * 64)
        self.assert_decided_by_the_last(65, ("string",), [128, 1] + [65] * 63 + [200])
        self.assert_decided_by_the_last(2, ("map", ("int",)), [2, 6, 37, 65, 66])

    def test_a_key_that_the_map_has_already(self):
        shape = ("map", ("int",))
        self.assert_decided_by_the_last(4, shape, [4, 2, 65, 0, 2, 65])
        self.assert_decided_by_the_last(2, ("map", ("null",)), [4, 0, 0])
        self.assert_decided_by_the_last(7, shape, [6, 2, 65, 0, 2, 66, 0, 2, 65])
        self.assert_decided_by_the_last(5, shape, [2, 2, 65, 0, 2, 2, 65])
        self.assert_decided_by_the_last(7, shape, [1, 6, 2, 65, 0, 1, 6, 2, 65])
        self.assert_gives(({"A": {"A": 1}, "B": {"A": 2}}, 17), decode, schema_of(("map", shape)),
                          [4, 2, 65, 2, 2, 65, 2, 0, 2, 66, 1, 6, 2, 65, 4, 0, 0])

    def test_a_negative_number_of_octets_of_a_block(self):
        for n in (-1, -64, -2 ** 63):
            self.assert_decided_by_the_last(1, ("array", ("int",)), [1] + write_number(n))
            self.assert_decided_by_the_last(1, ("map", ("int",)), [5] + write_number(n))
            self.assert_decided_by_the_last(3, ("array", ("int",)), [2, 0, 1] + write_number(n))

    def test_a_wrong_number_of_octets_of_a_block(self):
        for size in (0, 1, 3, 64, 2 ** 63 - 1):
            head = [3] + write_number(size)
            self.assert_decided_by_the_last(1, ("array", ("int",)), head + [2, 4])
            self.assert_decided_by_the_last(1, ("map", ("null",)), [1] + write_number(size) + [2, 65])
            self.assert_decided_by_the_last(4, ("array", ("int",)), [1, 2, 7] + head + [2, 4])
        self.assert_decided_by_the_last(1, ("array", ("null",)), [3, 2])
        self.assert_decided_by_the_last(1, ("array", ("int",)), [1, 2, 128, 1])

    def test_an_error_in_the_items_comes_ahead_of_a_wrong_number_of_octets(self):
        self.assert_decided_by_the_last(3, ("array", ("boolean",)), [3, 0, 1, 2])
        self.assert_decided_by_the_last(4, ("map", ("null",)), [3, 126, 2, 65, 2, 65])
        self.assert_truncated(("array", ("int",)), [3, 0, 2])
        self.assert_truncated(("array", ("int",)), [3, 126, 2])

    def test_a_block_of_more_than_10000_items(self):
        for n in (10001, -10001, 10002, 2 ** 31, 2 ** 63 - 1, -2 ** 63):
            for item in ("int", "null"):
                self.assert_decided_by_the_last(0, ("array", (item,)), write_number(n))
                self.assert_decided_by_the_last(0, ("map", (item,)), write_number(n))
            self.assert_decided_by_the_last(2, ("array", ("int",)), [2, 0] + write_number(n))
        for n in (10000, -10000):
            self.assert_truncated(("array", ("int",)), write_number(n))
            self.assert_truncated(("map", ("int",)), write_number(n))
        self.assert_invalid(3, ("array", ("null",)), write_number(-10000) + [1])
        self.assert_truncated(("array", ("null",)), write_number(10000))

    def test_the_first_number_of_a_block_is_told_ahead_of_the_second(self):
        self.assert_invalid(0, ("array", ("int",)), write_number(-10001) + [1])
        self.assert_invalid(0, ("array", ("int",)), write_number(-10001) + [128, 0])

    def test_what_lies_inside_64_others(self):
        for levels in (64, 65, 70):
            for kind, head in (("array", [2]), ("map", [2, 2, 65]), ("union", [0])):
                for inner, behind in ((("array", ("int",)), [0]), (("map", ("int",)), [0]), (("union", (("null",),)), [0]),
                                      (("named", "E"), []), (("named", "P"), [0, 0, 0])):
                    shape = inner
                    for _ in range(levels):
                        shape = ("union", (shape,)) if kind == "union" else (kind, shape)
                    self.assert_invalid(64 * len(head), shape, head * 64)
                    end = [] if kind == "union" else [0] * 63
                    allowed = shape
                    for _ in range(levels - 63):
                        allowed = allowed[1][0] if kind == "union" else allowed[1]
                    if levels == 64:
                        self.assert_gives(63 * len(head) + len(behind) + len(end),
                                          lambda: decode(schema_of(allowed), head * 63 + behind + end)[1])

    def test_records_inside_64_others(self):
        octets = [2] * 31 + [0]
        value = ((0, None),)
        for _ in range(31):
            value = ((1, value),)
        self.assert_gives((value, 32), decode, schema_of(("named", "L")), octets)
        self.assert_invalid(32, ("named", "L"), [2] * 32)
        self.assert_invalid(32, ("array", ("named", "L")), [2] + [2] * 31)
        self.assert_invalid(32, ("named", "T"), [2] * 32)

    def test_plain_values_inside_64_others(self):
        for inner, octets, value in ((("int",), [4], 2), (("null",), [], None), (("string",), [2, 65], "A"),
                                     (("named", "F3"), [1, 2, 3], [1, 2, 3]), (("named", "C"), [2], "B")):
            shape = inner
            for _ in range(64):
                shape = ("array", shape)
                value = [value]
            self.assert_gives((value, 128 + len(octets)), decode, schema_of(shape), [2] * 64 + octets + [0] * 64)
            self.assert_invalid(64, ("array", shape), [2] * 64)

    def test_it_is_told_when_it_begins(self):
        """No octet of it is looked at: not whether one is there, nor what it is."""
        shape = ("boolean",)
        for _ in range(65):
            shape = ("union", (shape,))
        for behind in ([], [128, 0], [1], [4]):
            self.assert_fault(InvalidData, 64, shape, [0] * 64 + behind)
        self.assert_invalid(63, shape, [0] * 63 + [2])
        self.assert_truncated(shape, [0] * 63)

    def test_many_parts(self):
        octets = write_number(10000) + [2, 0, 0] * 10000 + [0]
        self.assert_gives(30004, lambda: decode(schema_of(("array", ("array", ("array", ("int",))))), octets)[1])

    def test_all_short_octets(self):
        """A prefix of octets that are read is Truncated; an error stays when octets are added."""
        shapes = (("long",), ("bytes",), ("string",), ("named", "C"), ("union", (("null",), ("boolean",))),
                  ("array", ("boolean",)), ("map", ("null",)), ("map", ("boolean",)), ("named", "L"), ("named", "T"),
                  ("array", ("null",)), ("array", ("array", ("null",))))
        for shape in shapes:
            schema = schema_of(shape)
            for length in range(5):
                for octets in itertools.product((0, 1, 2, 3, 4, 65, 128), repeat=length):
                    self.check(schema, list(octets))

    def test_octets_that_were_changed(self):
        chosen = random.Random(12)
        for schema in some_schemas(chosen, 150):
            octets = encode(schema, some_value(chosen, schema))
            for _ in range(10):
                at = chosen.randrange(len(octets) + 1)
                octet = chosen.choice([0, 1, 2, 3, 127, 128, 255, chosen.randrange(256)])
                self.check(schema, octets[:at] + [octet] + octets[at + chosen.randrange(2):])

    def outcome(self, schema, octets):
        try:
            return decode(schema, octets)
        except FormkeeperError as error:
            return error.__class__, error.place

    def check(self, schema, octets):
        found = self.outcome(schema, octets)
        shorter = self.outcome(schema, octets[:-1])
        if found[0] == Truncated:
            self.assertEqual(len(octets), found[1])
        elif found[0] == InvalidData:
            self.assertTrue(0 <= found[1] <= len(octets))
        else:
            self.assertTrue(is_value(schema, schema.root, found[0]))
            self.assertTrue(0 <= found[1] <= len(octets))
            self.assertEqual(found[0], decode(schema, encode(schema, found[0]))[0])
        if octets:
            if shorter[0] != Truncated:
                self.assertEqual(shorter, found)
            elif found[0] not in (Truncated, InvalidData):
                self.assertEqual(len(octets), found[1])

    def test_a_value_without_blocks_has_one_encoding(self):
        shapes = (("boolean",), ("int",), ("bytes",), ("string",), ("named", "C"), ("named", "P"),
                  ("union", (("null",), ("boolean",), ("int",))), ("named", "L"))
        for shape in shapes:
            schema = schema_of(shape)
            for octets in itertools.product((0, 1, 2, 3, 4, 65, 127, 128, 129), repeat=4):
                found = self.outcome(schema, list(octets))
                if found[0] not in (Truncated, InvalidData):
                    self.assertEqual(list(octets[:found[1]]), encode(schema, found[0]))


if __name__ == "__main__":
    unittest.main()
