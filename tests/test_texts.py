"""Chapter 01: texts as octets."""

import unittest

from formkeeper.errors import InvalidText
from formkeeper.texts import decode_text, encode_text, is_text
from tests.support import ProgramTest

CODES = [9, 10] + list(range(32, 37)) + list(range(38, 127))


class TextsTest(ProgramTest):

    def test_examples_of_the_document(self):
        self.assert_gives([97, 126, 10], encode_text, "a~\n")
        self.assert_gives("Hi", decode_text, [72, 105])
        self.assert_raises_at(InvalidText, 1, decode_text, [97, 13])

    def test_there_are_96_characters(self):
        self.assertEqual(96, len(CODES))

    def test_each_character_there_and_back(self):
        for code in CODES:
            with self.subTest(code=code):
                self.assert_gives([code], encode_text, chr(code))
                self.assert_gives(chr(code), decode_text, [code])
                self.assert_gives(True, is_text, chr(code))

    def test_all_characters_at_once(self):
        text = "".join(chr(code) for code in CODES)
        self.assert_gives(CODES, encode_text, text)
        self.assert_gives(text, decode_text, CODES)
        self.assert_gives(True, is_text, text)

    def test_every_other_octet_is_no_code(self):
        for octet in range(256):
            if octet not in CODES:
                with self.subTest(octet=octet):
                    self.assert_raises_at(InvalidText, 0, decode_text, [octet])
                    self.assert_raises_at(InvalidText, 2, decode_text, [65, 66, octet])
                    self.assert_gives(False, is_text, chr(octet))

    def test_characters_beside_the_borders(self):
        for code in (0, 8, 11, 13, 31, 37, 127, 128, 160, 255, 256, 0x660, 0x2028, 0xFF41, 0x1F600):
            with self.subTest(code=code):
                self.assert_gives(False, is_text, chr(code))
                self.assert_gives(False, is_text, "ab" + chr(code))
                self.assert_gives(False, is_text, chr(code) + "ab")

    def test_the_first_wrong_octet_is_told(self):
        self.assert_raises_at(InvalidText, 2, decode_text, [65, 10, 37, 66, 200, 0])
        self.assert_raises_at(InvalidText, 0, decode_text, [255, 0, 37])
        self.assert_raises_at(InvalidText, 999, decode_text, [32] * 999 + [127] * 3)

    def test_empty(self):
        self.assert_gives([], encode_text, "")
        self.assert_gives("", decode_text, [])
        self.assert_gives(True, is_text, "")

    def test_the_octets_are_a_new_list(self):
        self.assertIsNot(encode_text("a"), encode_text("a"))


if __name__ == "__main__":
    unittest.main()
