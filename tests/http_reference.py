"""A second reading of points 18.4 and 18.5, to compare Reader with: it looks at all octets at once, by patterns, and
tells with each event how many octets decide it."""

import re

from formkeeper.http import Answer, Request

FIRST_LINES = {
    "request": re.compile(r"([A-Z]{1,10}) (/[^ ]*) HTTP/1\.1"),
    "answer": re.compile(r"HTTP/1\.1 ([1-5][0-9][0-9]) .*"),
}
HEADER = re.compile(r"([A-Za-z0-9-]{1,40}):(.*)")


class Cut(Exception):
    pass


class Fault(Exception):
    def __init__(self, place, decided):
        self.place = place
        self.decided = decided


def read_line(data, at):
    """Returns the text of the line at a place, and the place behind it."""
    end = data.find(b"\n", at, at + 4000)
    if end < 0 and len(data) >= at + 4000:
        raise Fault(at, at + 4000)
    if end < 0:
        raise Cut()
    whole = data[at:end + 1]
    wrong = re.search(rb"[^ -$&-~]", whole[:-2] if whole.endswith(b"\r\n") else whole)
    if wrong:
        raise Fault(at + wrong.start(), end + 1)
    return whole[:-2].decode("ascii"), end + 1


def need(condition, at, behind):
    if not condition:
        raise Fault(at, behind)


def read_message(kind, data, at):
    line, behind = read_line(data, at)
    first = FIRST_LINES[kind].fullmatch(line)
    need(first, at, behind)
    headers = []
    while True:
        at = behind
        line, behind = read_line(data, at)
        if line == "":
            break
        header = HEADER.fullmatch(line)
        need(header and len(headers) < 40, at, behind)
        headers.append((header[1].lower(), header[2].strip(" ")))
    framing = [header for header in headers if header[0] in ("content-length", "transfer-encoding")]
    need(len(framing) <= 1, at, behind)
    length = 0
    for name, value in framing:
        if name == "content-length":
            need(re.fullmatch("0|[1-9][0-9]{0,8}", value), at, behind)
            length = int(value)
            need(length <= 1000000, at, behind)
        else:
            need(value == "chunked", at, behind)
            length = None
    body, behind = read_body(data, behind, length)
    told = tuple(header for header in headers if header not in framing)
    if kind == "request":
        return Request(first[1], first[2], told, body), behind
    return Answer(int(first[1]), told, body), behind


def read_body(data, at, length):
    if length is not None:
        if len(data) < at + length:
            raise Cut()
        return list(data[at:at + length]), at + length
    body = []
    while True:
        line, behind = read_line(data, at)
        need(re.fullmatch("[0-9A-Fa-f]{1,7}", line), at, behind)
        length = int(line, 16)
        need(len(body) + length <= 1000000, at, behind)
        if length == 0:
            break
        body += data[behind:behind + length]
        at = behind + length
        for octet in (13, 10):
            if at >= len(data):
                raise Cut()
            need(data[at] == octet, at, at + 1)
            at += 1
    line, at = read_line(data, behind)
    need(line == "", behind, at)
    return body, at


def read_all(kind, octets):
    """Returns the list of the events, each behind how many octets decide it, and what `finish` returns."""
    data = bytes(octets)
    events = []
    at = 0
    while at < len(data):
        try:
            message, at = read_message(kind, data, at)
            events.append((at, ("message", message)))
        except Fault as fault:
            events.append((fault.decided, ("fault", fault.place)))
            return events, []
        except Cut:
            return events, [("cut", len(data))]
    return events, []
