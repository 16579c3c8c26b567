"""The shapes of a schema by numbers."""

from formkeeper.shapes import resolved


class Numbering:
    """Numbers the shapes of a schema from 0 on, as they are asked for. Equal shapes have the same
    number; so it stands for a shape in a key, for which a shape itself may be nested too deep."""

    def __init__(self, schema):
        self.definitions = schema.names
        self.shapes = []
        self.numbers = {}
        self.inner = []
        self.root = self.number_of(schema.root)

    def number_of(self, shape):
        """Returns the number of a shape."""
        inner = None
        key = shape
        if shape[0] == "array" or shape[0] == "map":
            inner = (self.number_of(shape[1]),)
        elif shape[0] == "union":
            inner = tuple([self.number_of(branch) for branch in shape[1]])
        if inner is not None:
            key = (shape[0],) + inner
        if key not in self.numbers:
            self.numbers[key] = len(self.shapes)
            self.shapes.append(shape)
            self.inner.append(inner)
        return self.numbers[key]

    def form(self, number):
        """Returns the shape with a number, or its definition."""
        return resolved(self.definitions, self.shapes[number])

    def parts(self, number):
        """Returns the numbers of the item, the branches or the fields of the shape with a number."""
        if self.inner[number] is None:
            form = self.form(number)
            fields = form[2] if form[0] == "record" else ()
            self.inner[number] = tuple([self.number_of(field[1]) for field in fields])
        return self.inner[number]

    def meet_all(self):
        """Numbers all shapes that can be reached from those that have a number."""
        at = 0
        while at < len(self.shapes):
            self.parts(at)
            at += 1
