"""Whether all data of a writer can be read as data of a reader."""

from formkeeper.encoding import INT_END, write_number
from formkeeper.least import LeastSearch
from formkeeper.numbering import Numbering
from formkeeper.reading import Planner

# How the least unread octets of a shape stand to its least octets where the two differ first.
LESS = -1
SAME = 0
MORE = 1
# The octet 0 is the code of no character of a text.
NO_TEXT = (2, 0)
BEGIN_OF_ARRAY = (2,)
# The only key is the empty one.
BEGIN_OF_MAP = (2, 0)


def uses_of(step):
    """Returns the indexes of the steps by which a step reads parts of its value."""
    if step[0] == "array" or step[0] == "map":
        return [step[1]]
    if step[0] == "union":
        return list(step[1])
    if step[0] == "record":
        return [inner for inner, _ in step[1]]
    return []


def best_row(rows):
    """Returns the row with the least octets of a record. A row is a tuple: how many more octets a
    field has that is not read, how these stand to its least octets, and more.

    Of equally many octets, two rows differ first in the earlier one of their two fields, where the
    one has octets that are not read, and the other one the least ones: of two encodings of a field
    none is the beginning of the other."""
    fewest = min([row[0] for row in rows])
    rows = [row for row in rows if row[0] == fewest]
    for sign in (SAME, LESS):
        for row in rows:
            if row[1] == sign:
                return row
    return rows[-1]


class UnreadSearch(LeastSearch):
    """Looks also for the least octets that are not read. The cells of the steps stand behind those
    of the shapes of the writer; such a cell holds None, or a piece and how it stands to the least
    octets of the shape."""

    def __init__(self, planner):
        self.steps = planner.all_steps()
        self.pairs = planner.pairs
        super().__init__(planner.written)
        self.first = len(self.cells)
        self.add_cells(len(self.steps))
        for index, step in enumerate(self.steps):
            # The branch of a reader's union has the same room.
            inner = self.steps[step[2]] if step[0] == "branch" else step
            self.note_uses(self.first + index, [self.first + used for used in uses_of(inner)])
            self.note_uses(self.first + index, self.numbering.parts(self.pairs[index][0]))

    def content(self, cell, room):
        """Returns what a cell holds for a room."""
        if cell < self.first:
            return self.least(cell, room)
        return self.unread(cell - self.first, room)

    def unread(self, index, room):
        """Returns what the cell of a step holds for a room."""
        step = self.steps[index]
        number, goal = self.pairs[index]
        word = step[0]
        if goal is None:
            return None
        if word == "branch":
            return self.unread(step[2], room)
        if word == "unreadable":
            piece = self.least(number, room)
            return None if piece is None else (piece, SAME)
        if word == "to int":
            return (self.pieces.of_octets(tuple(write_number(INT_END))), MORE)
        if word == "to text":
            return (self.pieces.of_octets(NO_TEXT), MORE)
        if word == "choice":
            return self.unread_symbol(step[1])
        if room == 0:
            return None
        if word == "array":
            return self.unread_items(BEGIN_OF_ARRAY, step[1])
        if word == "map":
            return self.unread_items(BEGIN_OF_MAP, step[1])
        if word == "union":
            return self.unread_union(number, step[1])
        if word == "record":
            return self.unread_record(number, step[1])
        return None

    def unread_symbol(self, symbols):
        if None not in symbols:
            return None
        at = symbols.index(None)
        return (self.pieces.of_octets(tuple(write_number(at))), SAME if at == 0 else MORE)

    def unread_items(self, begin, index):
        """Returns what the cell of an array or a map holds whose items are read by a step."""
        found = self.cells[self.first + index]
        if found is None:
            return None
        return (self.pieces.joined((self.pieces.of_octets(begin), found[0], self.pieces.of_octets((0,)))), MORE)

    def unread_union(self, number, indexes):
        found = [self.cells[self.first + index] for index in indexes]
        at = self.least_branch([None if each is None else each[0] for each in found])
        if at is None:
            return None
        least_at = self.least_branch(self.least_parts(number))
        if at == least_at:
            return (self.in_branch(at, found[at][0]), found[at][1])
        return (self.in_branch(at, found[at][0]), LESS if at < least_at else MORE)

    def unread_record(self, number, rows):
        parts = self.least_parts(number)
        if None in parts:
            return None
        found = []
        for at, (index, target) in enumerate(rows):
            unread = self.cells[self.first + index]
            if target is not None and unread is not None:
                more = self.pieces.lengths[unread[0]] - self.pieces.lengths[parts[at]]
                found.append((more, unread[1], at, unread[0]))
        if not found:
            return None
        _, sign, at, piece = best_row(found)
        return (self.pieces.joined(parts[:at] + [piece] + parts[at + 1:]), sign)


def searched(writer, reader):
    """Returns the search for the least unread octets, and what the cell of the roots holds."""
    search = UnreadSearch(Planner(writer, reader))
    search.search()
    return search, search.cells[search.first]


def least_octets(schema):
    """Returns the least octets of a schema."""
    search = LeastSearch(Numbering(schema))
    search.search()
    return search.pieces.unfolded(search.cells[search.numbering.root])


def least_unread(writer, reader):
    """Returns the least unread octets, or None if there are none."""
    search, found = searched(writer, reader)
    return None if found is None else search.pieces.unfolded(found[0])


def fits(writer, reader):
    """Returns True if the reader fits the writer."""
    return searched(writer, reader)[1] is None
