"""The search for least octets."""

from formkeeper.encoding import write_number
from formkeeper.pieces import Pieces
from formkeeper.shapes import DEEPEST_NESTING, NESTED


class LeastSearch:
    """Looks for the least octets of values with a nesting of at most `room`, for one room after the
    other. What is found for a room is put together from what was found for the room before; so it
    is looked for again only where that has changed.

    There is a cell for each thing that is looked for. Here, the cell with the number of a shape
    holds the piece of its least octets, or None if there are none."""

    def __init__(self, numbering):
        numbering.meet_all()
        self.numbering = numbering
        self.pieces = Pieces()
        self.cells = []
        self.users = []
        self.add_cells(len(numbering.shapes))
        for number in range(len(numbering.shapes)):
            self.note_uses(number, numbering.parts(number))

    def add_cells(self, count):
        for _ in range(count):
            self.cells.append(None)
            self.users.append([])

    def note_uses(self, user, used):
        """Notes which other cells a cell is filled from."""
        for cell in used:
            self.users[cell].append(user)

    def search(self):
        """Fills the cells for the greatest room."""
        every = list(range(len(self.cells)))
        # Whether there is any room makes a difference also where nothing else has changed.
        self.fill(every, 0)
        changed = self.fill(every, 1)
        for room in range(2, DEEPEST_NESTING + 1):
            touched = {user: True for cell in changed for user in self.users[cell]}
            changed = self.fill(list(touched), room)

    def fill(self, cells, room):
        """Fills cells from what all cells held before; returns the list of those that changed."""
        found = [(cell, self.content(cell, room)) for cell in cells]
        changed = [(cell, content) for cell, content in found if content != self.cells[cell]]
        for cell, content in changed:
            self.cells[cell] = content
        return [cell for cell, _ in changed]

    def content(self, cell, room):
        """Returns what a cell holds for a room."""
        return self.least(cell, room)

    def least(self, number, room):
        """Returns the piece of the least octets of a shape for a room, or None."""
        form = self.numbering.form(number)
        kind = form[0]
        if kind == "null":
            return self.pieces.empty
        if kind == "fixed":
            return self.pieces.of_octets((0,) * form[2])
        if kind not in NESTED:
            return self.pieces.of_octets((0,))
        if room == 0:
            return None
        parts = self.least_parts(number)
        if kind == "union":
            at = self.least_branch(parts)
            return None if at is None else self.in_branch(at, parts[at])
        if kind == "record":
            return None if None in parts else self.pieces.joined(parts)
        return self.pieces.of_octets((0,))

    def least_parts(self, number):
        """Returns the pieces of the least octets of the parts of a shape."""
        return [self.cells[part] for part in self.numbering.parts(number)]

    def least_branch(self, parts):
        """Returns the index of the branch that has the least octets, behind its index, or None."""
        found = [(self.pieces.lengths[part], at) for at, part in enumerate(parts) if part is not None]
        # All indexes have one octet; of equally many octets, those with the lesser index are less.
        return min(found)[1] if found else None

    def in_branch(self, at, part):
        """Returns the piece of an index and what stands behind it."""
        return self.pieces.joined((self.pieces.of_octets(tuple(write_number(at))), part))

