"""A second reading of point 02.3, to compare parse_json with: an automaton with a stack."""

BLANKS = " \t\n"
HEX = "0123456789abcdefABCDEF"


def code_is_in_a_text(code):
    return code in (9, 10) or (32 <= code <= 126 and code != 37)


class Fault(Exception):
    def __init__(self, place):
        self.place = place


def first_fault(text):
    """Returns the place of InvalidJson for a text, or None if it is a JSON text."""
    try:
        scan(text)
    except Fault as fault:
        return fault.place
    return None


def scan(text):
    """Goes over the tokens; what may come next follows from the token before and the open brackets."""
    stack = []
    before = "start"
    at = 0
    while True:
        while at < len(text) and text[at] in BLANKS:
            at += 1
        wanted = what_may_follow(before, stack)
        if at == len(text):
            if "end" in wanted:
                return
            raise Fault(at)
        first = text[at]
        kind = "scalar" if first in "-0123456789ntf" else "string" if first == '"' else first
        if kind == "string" and "key" in wanted:
            kind = "key"
        if kind not in wanted:
            raise Fault(at)
        if kind in "[{":
            if len(stack) == 32:
                raise Fault(at)
            stack.append((kind, set()))
            at += 1
        elif kind in "]}":
            stack.pop()
            at += 1
        elif kind in ",:":
            at += 1
        elif kind == "scalar":
            at = behind_scalar(text, at)
        else:
            found, behind = behind_string(text, at)
            if kind == "key":
                if found in stack[-1][1]:
                    raise Fault(at)
                stack[-1][1].add(found)
            at = behind
        before = kind


def what_may_follow(before, stack):
    values = ["scalar", "string", "[", "{"]
    if before in ("start", ":") or (before == "," and stack[-1][0] == "["):
        return values
    if before == "[":
        return values + ["]"]
    if before == "{":
        return ["key", "}"]
    if before == ",":
        return ["key"]
    if before == "key":
        return [":"]
    if not stack:
        return ["end"]
    return [",", "]" if stack[-1][0] == "[" else "}"]


def behind_scalar(text, at):
    for word in ("null", "true", "false"):
        if text[at] == word[0]:
            for offset, letter in enumerate(word):
                if text[at + offset:at + offset + 1] != letter:
                    raise Fault(at + offset)
            return at + len(word)
    end = at + (text[at] == "-")
    if end == len(text) or text[end] not in "0123456789":
        raise Fault(end)
    if text[end] == "0":
        return end + 1
    digits = end
    while end < len(text) and text[end] in "0123456789":
        end += 1
    if end - digits >= 16:
        raise Fault(at)
    return end


def behind_string(text, at):
    found = ""
    end = at + 1
    while True:
        piece = text[end:end + 1]
        if piece == '"':
            return found, end + 1
        if piece == "" or ord(piece) < 32:
            raise Fault(end)
        if piece != "\\":
            found += piece
            end += 1
            continue
        letter = text[end + 1:end + 2]
        if letter == "u":
            for offset in range(4):
                digit = text[end + 2 + offset:end + 3 + offset]
                if digit == "" or digit not in HEX:
                    raise Fault(end + 2 + offset)
            code = int(text[end + 2:end + 6], 16)
            if not code_is_in_a_text(code):
                raise Fault(end)
            found += chr(code)
            end += 6
        elif letter != "" and letter in '"\\/nt':
            found += {"n": "\n", "t": "\t"}.get(letter, letter)
            end += 2
        else:
            raise Fault(end + 1)
