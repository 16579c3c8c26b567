"""Texts and their octets."""

from formkeeper.errors import InvalidText

TAB = 9
LINE_FEED = 10
SPACE = 32
PERCENT = 37
TILDE = 126
# The percent sign is no character of a text, so the characters from the space on stand in two rows.
BELOW_PERCENT = " !\"#$"
ABOVE_PERCENT = (
    "&'()*+,-./0123456789:;<=>?@"
    "ABCDEFGHIJKLMNOPQRSTUVWXYZ[\\]^_`"
    "abcdefghijklmnopqrstuvwxyz{|}~"
)


def is_code(code):
    """Returns True if an integer is the code of a character of a text."""
    if SPACE <= code <= TILDE:
        return code != PERCENT
    return code == LINE_FEED or code == TAB


def character_of(code):
    """Returns the character of a text that has this code, or None if there is none."""
    if not is_code(code):
        return None
    if code == TAB:
        return "\t"
    if code == LINE_FEED:
        return "\n"
    if code < PERCENT:
        return BELOW_PERCENT[code - SPACE]
    return ABOVE_PERCENT[code - PERCENT - 1]


def is_text(text):
    """Returns True if a string is a text."""
    for character in text:
        if not is_code(ord(character)):
            return False
    return True


def encode_text(text):
    """Returns the octets of a text."""
    return [ord(character) for character in text]


def decode_text(octets):
    """Returns the text of octets."""
    characters = []
    for at, octet in enumerate(octets):
        character = character_of(octet)
        if character is None:
            raise InvalidText(at)
        characters.append(character)
    return "".join(characters)
