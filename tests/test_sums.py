"""Point 12.1: the sum of octets."""

import random
import unittest

from formkeeper.sums import sum_of
from tests.support import ProgramTest


def sum_by_bits(octets):
    """The words of the point, one after the other."""
    total = 0
    for octet in octets:
        total ^= octet << 24
        for _ in range(8):
            shifted_out = total >> 31
            total = (total << 1) % 2 ** 32
            if shifted_out == 1:
                total ^= 79764919
    return total


def sum_by_division(octets):
    """The remainder of the division of polynomials over two elements."""
    rest = 0
    for octet in octets:
        rest = rest << 8 | octet
    rest <<= 32
    divisor = 2 ** 32 + 79764919
    while rest >= 2 ** 32:
        rest ^= divisor << rest.bit_length() - 33
    return rest


class SumsTest(ProgramTest):

    def check(self, octets):
        found = self.called(sum_of, octets)
        self.assertIs(int, found.__class__)
        self.assertEqual((sum_by_bits(octets), sum_by_division(octets)), (found, found))

    def test_no_octets(self):
        self.assert_gives(0, sum_of, [])

    def test_one_octet(self):
        self.assert_gives(0, sum_of, [0])
        self.assert_gives(79764919, sum_of, [1])
        self.assert_gives(159529838, sum_of, [2])
        for octet in range(256):
            self.check([octet])

    def test_many_octets(self):
        self.assert_gives(0x89A1897F, sum_of, [ord(digit) for digit in "123456789"])
        self.assert_gives(0, sum_of, [0] * 1000)
        self.check([255] * 300)
        chosen = random.Random(40)
        for length in list(range(20)) + [100, 1000]:
            self.check([chosen.randrange(256) for _ in range(length)])

    def test_a_burst_of_at_most_32_bits_changes_the_sum(self):
        chosen = random.Random(41)
        octets = [chosen.randrange(256) for _ in range(40)]
        total = sum_of(octets)
        for begin in range(320):
            for length in list(range(1, 33)):
                if begin + length <= 320:
                    inner = chosen.randrange(2 ** max(length - 2, 0)) << 1
                    burst = 1 if length == 1 else 1 << length - 1 | inner | 1
                    wide = burst << 320 - begin - length
                    changed = [octet ^ wide >> 8 * (39 - at) & 255 for at, octet in enumerate(octets)]
                    self.assertNotEqual(octets, changed)
                    self.assertNotEqual(total, sum_of(changed))


if __name__ == "__main__":
    unittest.main()
