"""Chapter 02: JSON."""

import itertools
import random
import unittest

from formkeeper.errors import InvalidJson
from formkeeper.jsontext import parse_json, write_json
from tests.json_reference import first_fault
from tests.support import ProgramTest

MOST = 10 ** 15 - 1
ALL_CHARACTERS = "\t\n" + "".join(chr(code) for code in range(32, 127) if code != 37)


class ReadingTest(ProgramTest):
    """Points 02.1 and 02.2."""

    def assert_reads(self, value, text):
        self.assert_gives(value, parse_json, text)

    def test_examples_of_the_document(self):
        self.assert_reads({"a": [1, 0, None], "b": "xA"}, '{"a": [1, -0, null], "b": "x\\u0041"}')
        self.assert_raises_at(InvalidJson, 3, parse_json, "[1,]")

    def test_words(self):
        self.assert_reads(None, "null")
        self.assert_reads(True, "true")
        self.assert_reads(False, "false")
        self.assert_reads([None, True, False], "[null,true,false]")

    def test_numbers(self):
        for text, value in (("0", 0), ("-0", 0), ("7", 7), ("-7", -7), ("10", 10), ("1234567890", 1234567890),
                            ("-100", -100), (str(MOST), MOST), (str(-MOST), -MOST)):
            with self.subTest(text):
                self.assert_reads(value, text)
                self.assert_reads([value, value], f"[{text},{text}]")

    def test_strings(self):
        self.assert_reads("", '""')
        self.assert_reads("a b", '"a b"')
        self.assert_reads("{[]},:'null 12", '"{[]},:\'null 12"')
        for character in ALL_CHARACTERS:
            if character not in '"\\\n\t':
                self.assert_reads(character, '"' + character + '"')

    def test_escapes(self):
        self.assert_reads('"\\/\n\t', '"\\"\\\\\\/\\n\\t"')
        self.assert_reads("a\"b\\c/d\ne\tf", '"a\\"b\\\\c\\/d\\ne\\tf"')

    def test_codes_of_all_characters_with_digits_of_either_case(self):
        for character in ALL_CHARACTERS:
            lower = f"{ord(character):04x}"
            for digits in (lower, lower.upper()):
                self.assert_reads("x" + character + "y", '"x\\u' + digits + 'y"')

    def test_digits_behind_a_code_belong_to_the_string(self):
        self.assert_reads("A1", '"\\u00411"')
        self.assert_reads("\n0\t", '"\\u000A0\\u0009"')

    def test_lists_and_dicts(self):
        self.assert_reads([], "[]")
        self.assert_reads({}, "{}")
        self.assert_reads([[], {}, [[]]], "[[],{},[[]]]")
        self.assert_reads({"": {}, "a": [], "b": {"a": 1}}, '{"":{},"a":[],"b":{"a":1}}')
        self.assert_reads([1, "a", None], '[1,"a",null]')

    def test_keys_in_the_order_of_the_text(self):
        self.assertEqual(["b", "a", "c", "B"], list(parse_json('{"b":1,"a":2,"c":3,"B":4}')))

    def test_the_same_key_in_different_dicts(self):
        self.assert_reads({"a": {"a": 1}, "b": {"a": 2}}, '{"a":{"a":1},"b":{"a":2}}')

    def test_blanks_in_every_place_where_they_may_stand(self):
        tokens = ["{", '"a b"', ":", "[", "1", ",", "-2", ",", "[", "]", ",", "{", "}", "]", ",", '"c"', ":", "null", "}"]
        value = {"a b": [1, -2, [], {}], "c": None}
        for blank in (" ", "\t", "\n", " \n\t \t\n"):
            self.assert_reads(value, blank + blank.join(tokens) + blank)
            for at in range(len(tokens) + 1):
                self.assert_reads(value, "".join(tokens[:at]) + blank + "".join(tokens[at:]))
        for text, value in (("0", 0), ("true", True), ('"a"', "a"), ("[]", []), ("{}", {})):
            self.assert_reads(value, "\n\t " + text + " \t\n")

    def test_no_blanks_inside_tokens(self):
        for text, place in (("nu ll", 2), ("1 2", 2), ("- 1", 1), ("tr\nue", 2), ('"\\ n"', 2), ('"\\u 0041"', 3)):
            self.assert_raises_at(InvalidJson, place, parse_json, text)

    def test_a_depth_of_32(self):
        lists = "[" * 32 + "]" * 32
        dicts = '{"a":' * 31 + "{}" + "}" * 31
        mixed = '[{"a":' * 16 + "0" + "}]" * 16
        for text in (lists, dicts, mixed):
            self.assertEqual(text, write_json(parse_json(text)))
        self.assert_reads([parse_json("[" * 31 + "]" * 31)] * 3, "[" + ",".join(["[" * 31 + "]" * 31] * 3) + "]")

    def test_a_long_text(self):
        text = "[" + ",".join(['"' + "x" * 97 + '"'] * 1000) + "]"
        self.assert_reads(["x" * 97] * 1000, text)


class RefusingTest(ProgramTest):
    """Point 02.3: the five places of InvalidJson, and which one is told."""

    def assert_fault(self, place, text):
        self.assert_raises_at(InvalidJson, place, parse_json, text)
        self.assertEqual(place, first_fault(text))

    def test_a_text_that_is_only_a_beginning(self):
        whole = ' {"a\\n\\u0041" : [ -12 , null,true , false, {}, "b"], "c":\t[]}'
        for length in range(len(whole)):
            self.assert_fault(length, whole[:length])
        self.assertIsNone(first_fault(whole))
        for text in ("", " ", "\n\t", "-", "[-", "[", "{", '"', "[1,", '{"a"', '{"a":', '{"a":1,', '"\\', '"\\u', '"\\u004',
                     "n", "nul", "tru", "fals", "[[]", "[ ", "{ "):
            self.assert_fault(len(text), text)

    def test_the_first_character_that_fits_nowhere(self):
        for text, place in (
            ("x", 0), ("]", 0), ("}", 0), (",", 0), (":", 0), ("'a'", 0), ("N", 0), ("NaN", 0), ("+1", 0), (".5", 0),
            ("Null", 0), ("True", 0), ("nulx", 3), ("nul", 3), ("nullx", 4), ("nullnull", 4), ("truefalse", 4),
            ("1.0", 1), ("1e5", 1), ("1E5", 1), ("1x", 1), ("0x1", 1), ("--1", 1), ("-a", 1), ("-]", 1), ("-\n1", 1),
            ("[1,]", 3), ("[,1]", 1), ("[1 2]", 3), ("[1}", 2), ("[}", 1), ("[1:2]", 2), ("[,]", 1), ("[1,,2]", 3),
            ("{]", 1), ("{,}", 1), ("{1:2}", 1), ("{null:1}", 1), ('{"a"}', 4), ('{"a",', 4), ('{"a" 1}', 5),
            ('{"a":}', 5), ('{"a":1,}', 7), ('{"a":1]', 6), ('{"a":1 "b":2}', 7), ('{"a"::1}', 5), ('{"a":1,,', 7),
            ("[] []", 3), ("{}{}", 2), ("1 1", 2), ('"a""b"', 3), ("null]", 4), ("[]]", 2), (" x", 1), ("[1]x", 3),
            ("[[1,2],[3,x]]", 10),
        ):
            with self.subTest(text):
                self.assert_fault(place, text)

    def test_numbers_with_a_leading_0(self):
        for text, place in (("00", 1), ("01", 1), ("-00", 2), ("-01", 2), ("[01]", 2), ("0" * 20, 1), ("007", 1)):
            self.assert_fault(place, text)

    def test_line_feeds_and_tabs_in_a_string(self):
        self.assert_fault(2, '"a\nb"')
        self.assert_fault(1, '"\t"')
        self.assert_fault(3, '{"a\n":1}')

    def test_escapes_that_are_none(self):
        for character in ALL_CHARACTERS:
            if character not in '"\\/ntu':
                self.assert_fault(3, '"a\\' + character + '"')
        self.assert_fault(2, '"\\U0041"')
        self.assert_fault(2, '"\\N"')

    def test_a_code_that_is_cut_off_or_has_a_wrong_digit(self):
        for digits in ("", "0", "00", "004", "0041"):
            self.assert_fault(3 + len(digits), '"\\u' + digits)
        for digits, place in (("g041", 3), ("0g41", 4), ("00g1", 5), ("004g", 6), ('00"', 5), ("00\\", 5), ("004 ", 6),
                              ("ffg", 5), ("-041", 3), ("00_1", 5), ("0x41", 4), ("+041", 3)):
            self.assert_fault(place, '"\\u' + digits + '"')

    def test_a_code_of_no_character(self):
        for code in (0, 8, 11, 13, 31, 37, 127, 128, 255, 0x100, 0x2028, 0xd83d, 0xffff):
            for digits in (f"{code:04x}", f"{code:04X}"):
                self.assert_fault(1, '"\\u' + digits + '"')
                self.assert_fault(3, '["a\\u' + digits)
                self.assert_fault(3, '{"a\\u' + digits + "x")
        for code in range(65536):
            if chr(code) not in ALL_CHARACTERS:
                self.compare(f'"\\u{code:04x}"')

    def test_digits_that_can_begin_no_code_are_no_error_before(self):
        self.assert_fault(5, '"\\uffg"')
        self.assert_fault(5, '"\\uff ')
        self.assert_fault(6, '"\\ufff')
        self.assert_fault(1, '"\\uffff')

    def test_a_number_outside_the_bounds(self):
        for digits in (str(10 ** 15), "9" * 16, str(10 ** 15 + 1), str(2 ** 63), str(10 ** 100)):
            for text in (digits, "-" + digits):
                self.assert_fault(0, text)
                self.assert_fault(1, "[" + text)
                self.assert_fault(3, "[1," + text + "]")
                self.assert_fault(5, '{"a":' + text + ",")
                self.assert_fault(2, " \n" + text + " ")

    def test_it_is_told_ahead_of_a_character_behind_it_that_fits_nowhere(self):
        for behind in ("x", "}", "]", ".5", "e1", "-", '"', " 1"):
            self.assert_fault(0, str(10 ** 15) + behind)
            self.assert_fault(0, str(-10 ** 15) + behind)
        self.assert_fault(1, "[" + str(10 ** 15) + "}")
        self.assert_fault(15, str(MOST) + "x")

    def test_a_number_of_very_many_digits(self):
        self.assert_fault(0, "1" * 5000)
        self.assert_fault(1, "[-" + "9" * 100000 + "x")

    def test_the_bracket_inside_32_others(self):
        self.assert_fault(32, "[" * 33)
        self.assert_fault(32, "[" * 33 + "]" * 33)
        self.assert_fault(32, "[" * 5000)
        self.assert_fault(32, "[" * 32 + "{")
        self.assert_fault(160, '{"a":' * 33)
        self.assert_fault(160, '{"a":' * 32 + "[]")
        self.assert_fault(34, "[" * 32 + "1,[")
        self.assert_fault(96, "[" + "[" * 31 + "]" * 31 + ", " + "[" * 32)
        self.assert_fault(33, "[" * 32 + " " + "[x")

    def test_a_bracket_that_fits_nowhere(self):
        self.assert_fault(156, '{"a":' * 31 + "{[")
        self.assert_fault(33, "[" * 32 + "1[")

    def test_a_key_that_the_dict_has_already(self):
        self.assert_fault(7, '{"a":1,"a":2}')
        self.assert_fault(7, '{"a":1,"a"')
        self.assert_fault(7, '{"a":1,"a"x')
        self.assert_fault(9, '{"a":1,"a')
        self.assert_fault(6, '{"":1,"":1}')
        self.assert_fault(14, '{"a":1,"b":2, "a":3}')
        self.assert_fault(20, '{"a":{"b":1},"b":{},"a":1}')
        self.assert_fault(12, '{"x":{"a":1,"a":1}}')

    def test_a_key_that_is_written_with_other_escapes(self):
        self.assert_fault(7, '{"a":1,"\\u0061":2}')
        self.assert_fault(12, '{"\\u0041":1,"A":2}')
        self.assert_fault(8, '{"/":1, "\\/":2}')
        self.assert_fault(8, '{"\\n":1,"\\u000a":2}')
        self.assert_fault(13, '{"\\u002F":1, "\\u002f":2}')

    def test_an_error_inside_a_key_comes_first(self):
        self.assert_fault(9, '{"a":1,"a\n":2}')
        self.assert_fault(8, '{"a":1,"\\u0025')

    def test_characters_of_no_text_fit_nowhere(self):
        for character in ("%", "\r", "\x00", "\x7f", "\xe9", "\u0661"):
            self.assert_raises_at(InvalidJson, 2, parse_json, "[1" + character)
            self.assert_raises_at(InvalidJson, 1, parse_json, '"' + character + '"')

    def test_all_short_texts(self):
        alphabets = (('[]{},:" 1-', 5), ('"\\u0a4{}:', 4), ('ntrulefas[', 4), ('0-19,]["', 4))
        for alphabet, longest in alphabets:
            for length in range(longest + 1):
                for letters in itertools.product(alphabet, repeat=length):
                    self.compare("".join(letters))

    def test_texts_that_were_changed_in_one_place(self):
        chosen = random.Random(2)
        for _ in range(3000):
            text = write_json(some_value(chosen, 4))
            at = chosen.randrange(len(text) + 1)
            piece = chosen.choice(['"', "\\", "[", "]", "{", "}", ",", ":", " ", "\n", "0", "-", "x", "u", "\\u0041", "9" * 15])
            self.compare(text[:at] + piece + text[at + chosen.randrange(2):])

    def compare(self, text):
        try:
            parse_json(text)
            place = None
        except InvalidJson as error:
            place = error.place
        if place != first_fault(text):
            self.fail(f"{text!r}: {place} instead of {first_fault(text)}")


class WritingTest(ProgramTest):
    """Points 02.4 and 02.5."""

    def assert_writes(self, text, value):
        self.assert_gives(text, write_json, value)
        self.assert_gives(value, parse_json, text)

    def test_example_of_the_document(self):
        self.assert_writes('["a\\nb",true,{"k":-5}]', ["a\nb", True, {"k": -5}])

    def test_each_kind(self):
        for text, value in (("null", None), ("true", True), ("false", False), ("0", 0), ("1", 1), ("-1", -1),
                            (str(MOST), MOST), (str(-MOST), -MOST), ('""', ""), ('"a b"', "a b"), ("[]", []), ("{}", {}),
                            ("[1]", [1]), ("[[],{}]", [[], {}]), ('{"":0}', {"": 0}),
                            ('{"a":[1,2],"b":{"c":null}}', {"a": [1, 2], "b": {"c": None}})):
            self.assert_writes(text, value)

    def test_each_character(self):
        escapes = {'"': '\\"', "\\": "\\\\", "\n": "\\n", "\t": "\\t"}
        for character in ALL_CHARACTERS:
            self.assert_writes('"' + escapes.get(character, character) + '"', character)
        written = "".join(escapes.get(character, character) for character in ALL_CHARACTERS)
        self.assert_writes('"' + written + '"', ALL_CHARACTERS)
        self.assert_writes('{"' + written + '":1}', {ALL_CHARACTERS: 1})

    def test_backslashes_beside_other_escapes(self):
        self.assert_writes('"\\\\n\\n\\\\\\"\\\\t\\t/"', '\\n\n\\"\\t\t/')

    def test_pairs_in_the_order_of_the_dict(self):
        self.assert_writes('{"b":1,"a":2,"B":3}', {"b": 1, "a": 2, "B": 3})
        self.assert_writes('{"a":2,"b":1}', {"a": 2, "b": 1})

    def test_a_depth_of_32(self):
        value = 7
        for level in range(32):
            value = [value] if level % 2 else {"k": value}
        self.assert_writes('[{"k":' * 16 + "7" + "}]" * 16, value)

    def test_reading_what_was_written(self):
        chosen = random.Random(1)
        for _ in range(1000):
            value = some_value(chosen, 5)
            self.assert_writes(write_json(value), value)


def some_value(chosen, depth):
    """Returns some JSON value of at most this depth."""
    kind = chosen.randrange(8 if depth else 6)
    if kind == 0:
        return chosen.choice([None, True, False])
    if kind <= 2:
        return chosen.choice([0, 1, -1, 10, -99, MOST, -MOST, chosen.randrange(-MOST, MOST)])
    if kind <= 5:
        return "".join(chosen.choice(ALL_CHARACTERS) for _ in range(chosen.randrange(4)))
    values = [some_value(chosen, depth - 1) for _ in range(chosen.randrange(4))]
    if kind == 6:
        return values
    return {"".join(chosen.choices("ab\"\n", k=2)): value for value in values}


if __name__ == "__main__":
    unittest.main()
