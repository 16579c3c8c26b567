"""Schemas under numbers."""


class NumberedSchema:
    """A schema: the text and the references that it was registered with, the Schema itself, and its
    canonical text."""

    def __init__(self, text, references, parsed, whole):
        self.text = text
        self.references = references
        self.parsed = parsed
        self.whole = whole


class Catalog:
    """Numbers schemas from 1 on: equal ones, which have the same canonical text, have one number."""

    def __init__(self):
        self.rows = []
        self.numbers = {}

    def add(self, row):
        """Adds a NumberedSchema that is not there yet, and returns its number."""
        self.rows.append(row)
        self.numbers[row.whole] = len(self.rows)
        return len(self.rows)

    def number_for(self, whole):
        """Returns the number of the schema with a canonical text, or None."""
        return self.numbers.get(whole)

    def row(self, number):
        """Returns the NumberedSchema with a number, or None."""
        return self.rows[number - 1] if 1 <= number <= len(self.rows) else None
