"""JSON values and their texts."""

from formkeeper.errors import InvalidJson
from formkeeper.texts import character_of, is_text

DEEPEST = 32
MOST_DIGITS = 15
BLANKS = (" ", "\t", "\n")
WORDS = (("null", None), ("true", True), ("false", False))
ESCAPES = {"\"": "\"", "\\": "\\", "/": "/", "n": "\n", "t": "\t"}
DIGITS = "0123456789abcdef"


def digit_of(character, base):
    """Returns what a digit of a number with this base is worth, or None for anything else."""
    if character == "":
        return None
    worth = DIGITS[:base].find(character.lower())
    return None if worth < 0 else worth


class JsonReader:
    """Reads a JSON text from left to right; `at` is the index of the next character."""

    def __init__(self, text):
        self.text = text
        self.at = 0

    def peek(self):
        """Returns the next character, or "" at the end."""
        if self.at < len(self.text):
            return self.text[self.at]
        return ""

    def peek_token(self):
        """Returns the first character of the next token, or "" at the end."""
        while self.peek() in BLANKS:
            self.at += 1
        return self.peek()

    def read_whole(self):
        """Reads the one value of the text."""
        value = self.read_value(0)
        if self.peek_token() != "":
            raise InvalidJson(self.at)
        return value

    def read_value(self, around):
        """Reads a value inside as many lists and dicts as `around` tells."""
        first = self.peek_token()
        if first == "[" or first == "{":
            if around == DEEPEST:
                raise InvalidJson(self.at)
            return self.read_list(around + 1) if first == "[" else self.read_dict(around + 1)
        if first == "\"":
            return self.read_string()
        if first == "-" or digit_of(first, 10) is not None:
            return self.read_number()
        for word, value in WORDS:
            if first == word[0]:
                self.skip_word(word)
                return value
        raise InvalidJson(self.at)

    def skip_word(self, word):
        for letter in word:
            if self.peek() != letter:
                raise InvalidJson(self.at)
            self.at += 1

    def read_number(self):
        begin = self.at
        if self.peek() == "-":
            self.at += 1
        first = self.at
        if digit_of(self.peek(), 10) is None:
            raise InvalidJson(self.at)
        self.at += 1
        if self.text[first] != "0":
            while digit_of(self.peek(), 10) is not None:
                self.at += 1
        # Without leading zeros, the digits alone tell whether the number is inside the bounds.
        # Python itself refuses to read a number of some thousand digits.
        if self.at - first > MOST_DIGITS:
            raise InvalidJson(begin)
        return int(self.text[begin:self.at])

    def read_string(self):
        self.at += 1
        characters = []
        while self.peek() != "\"":
            characters.append(self.read_character())
        self.at += 1
        return "".join(characters)

    def read_character(self):
        """Reads a character inside a string, or the escape that stands for it."""
        character = self.peek()
        if character == "\\":
            return self.read_escape()
        if character == "" or character == "\n" or character == "\t" or not is_text(character):
            raise InvalidJson(self.at)
        self.at += 1
        return character

    def read_escape(self):
        begin = self.at
        self.at += 1
        letter = self.peek()
        if letter == "u":
            self.at += 1
            return self.read_code(begin)
        if letter not in ESCAPES:
            raise InvalidJson(self.at)
        self.at += 1
        return ESCAPES[letter]

    def read_code(self, begin):
        """Reads the four digits of a code whose backslash stands at `begin`."""
        code = 0
        for _ in range(4):
            worth = digit_of(self.peek(), 16)
            if worth is None:
                raise InvalidJson(self.at)
            code = 16 * code + worth
            self.at += 1
        character = character_of(code)
        if character is None:
            raise InvalidJson(begin)
        return character

    def read_list(self, depth):
        self.at += 1
        values = []
        if self.peek_token() == "]":
            self.at += 1
            return values
        while True:
            values.append(self.read_value(depth))
            if self.read_end("]"):
                return values

    def read_dict(self, depth):
        self.at += 1
        pairs = {}
        if self.peek_token() == "}":
            self.at += 1
            return pairs
        while True:
            key = self.read_key(pairs)
            pairs[key] = self.read_value(depth)
            if self.read_end("}"):
                return pairs

    def read_key(self, pairs):
        """Reads a key that the pairs do not have, and its colon."""
        if self.peek_token() != "\"":
            raise InvalidJson(self.at)
        begin = self.at
        key = self.read_string()
        if key in pairs:
            raise InvalidJson(begin)
        if self.peek_token() != ":":
            raise InvalidJson(self.at)
        self.at += 1
        return key

    def read_end(self, bracket):
        """Reads the closing bracket or a comma; tells whether it was the bracket."""
        token = self.peek_token()
        if token != bracket and token != ",":
            raise InvalidJson(self.at)
        self.at += 1
        return token == bracket


def depth_of(value):
    """Returns the depth of a JSON value."""
    if isinstance(value, list):
        return 1 + max([depth_of(item) for item in value], default=0)
    if isinstance(value, dict):
        return 1 + max([depth_of(value[key]) for key in value], default=0)
    return 0


def parse_json(text):
    """Returns the JSON value of a text."""
    return JsonReader(text).read_whole()


def write_string(text):
    escaped = text.replace("\\", "\\\\").replace("\"", "\\\"")
    return "\"" + escaped.replace("\n", "\\n").replace("\t", "\\t") + "\""


def write_json(value):
    """Returns the text of a JSON value."""
    if value is None:
        return "null"
    if value is True:
        return "true"
    if value is False:
        return "false"
    if isinstance(value, int):
        return str(value)
    if isinstance(value, str):
        return write_string(value)
    if isinstance(value, list):
        return "[" + ",".join([write_json(item) for item in value]) + "]"
    return "{" + ",".join([write_string(key) + ":" + write_json(value[key]) for key in value]) + "}"
