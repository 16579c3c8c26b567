"""Lists of octets that are put together from others."""


class Pieces:
    """Numbers lists of octets from 0 on. A list that is put together from others is kept as their
    numbers, since the least octets of a part that is not chosen in the end may be of any length."""

    def __init__(self):
        self.numbers = {}
        self.rows = []
        self.lengths = []
        self.empty = self.of_octets(())

    def numbered(self, row, length):
        """Returns the number of a row: whether it is whole, and its octets or its parts."""
        if row not in self.numbers:
            self.numbers[row] = len(self.rows)
            self.rows.append(row)
            self.lengths.append(length)
        return self.numbers[row]

    def of_octets(self, octets):
        """Returns the number of octets, a tuple."""
        return self.numbered((True, octets), len(octets))

    def joined(self, parts):
        """Returns the number of the octets of numbered parts, one behind the other."""
        parts = tuple([part for part in parts if part != self.empty])
        if len(parts) == 1:
            return parts[0]
        if not parts:
            return self.empty
        return self.numbered((False, parts), sum([self.lengths[part] for part in parts]))

    def unfolded(self, number):
        """Returns the octets with a number, a new list."""
        is_whole, parts = self.rows[number]
        if is_whole:
            return list(parts)
        found = []
        for part in parts:
            found.extend(self.unfolded(part))
        return found
