"""Reading data of one schema as data of another one."""

from formkeeper.numbering import Numbering
from formkeeper.steps import UNREADABLE, run_steps
from formkeeper.values import value_of_json

# A shape of the writer, one of the reader to which it can be turned, and the step that reads it.
TURNS = (
    ("int", "long", ("simple", ("int",))),
    ("long", "int", ("to int",)),
    ("bytes", "string", ("to text",)),
    ("string", "bytes", ("to octets",)),
)


def turned(shape, goal):
    """Returns the step that turns a shape of the writer to one of the reader, or None."""
    for written, wanted, step in TURNS:
        if shape[0] == written and goal[0] == wanted:
            return step
    return None


def source_of(field, fields):
    """Returns the index of the source of a reader's field among the writer's fields, or None."""
    places = {other[0]: at for at, other in enumerate(fields)}
    for name in (field[0],) + field[3]:
        if name in places:
            return places[name]
    return None


class Matcher:
    """Tells which shapes of a writer and of a reader are of the same kind."""

    def __init__(self, writer, reader):
        self.written = writer.names
        self.wanted = reader.names
        self.fitting = {}

    def fits_by_name(self, name, goal):
        """Returns True if the definitions with these names fit by name."""
        definition = self.wanted[goal]
        if self.written[name][0] != definition[0]:
            return False
        if goal not in self.fitting:
            # There may be thousands of aliases.
            self.fitting[goal] = {each: True for each in (goal,) + definition[-1]}
        return name in self.fitting[goal]

    def is_same_kind(self, shape, goal):
        """Returns True if a shape of the writer is of the same kind as one of the reader."""
        if shape[0] != goal[0]:
            return False
        return shape[0] != "named" or self.fits_by_name(shape[1], goal[1])

    def best_branch(self, shape, branches):
        """Returns the index of the branch as which a shape of the writer is read, or None."""
        same = [at for at, branch in enumerate(branches) if self.is_same_kind(shape, branch)]
        for at in same:
            if shape[0] != "named" or shape[1] == branches[at][1]:
                return at
        if same:
            return same[0]
        for at, branch in enumerate(branches):
            if turned(shape, branch) is not None:
                return at
        return None


def branch_for(writer, reader, shape, branches):
    """Returns the index of the branch of the reader as which a shape of the writer, which is no
    union, is read, or None."""
    return Matcher(writer, reader).best_branch(shape, branches)


class Planner:
    """Works out the steps of a reading, each one when it is asked for. A step reads a shape of the
    writer as one of the reader; `pairs` tells their numbers. A shape that is only decoded and
    dropped has None beside it."""

    def __init__(self, writer, reader):
        self.reader = reader
        self.written = Numbering(writer)
        self.wanted = Numbering(reader)
        self.matcher = Matcher(writer, reader)
        self.indexes = {}
        self.pairs = []
        self.steps = []
        self.index_of(self.written.root, self.wanted.root)

    def index_of(self, number, goal):
        """Returns the index of the step for a pair of shapes."""
        pair = (number, goal)
        if pair not in self.indexes:
            self.indexes[pair] = len(self.pairs)
            self.pairs.append(pair)
            self.steps.append(None)
        return self.indexes[pair]

    def step(self, index):
        """Returns the step at an index."""
        if self.steps[index] is None:
            number, goal = self.pairs[index]
            self.steps[index] = self.dropping_step(number) if goal is None else self.reading_step(number, goal)
        return self.steps[index]

    def all_steps(self):
        """Returns the list of all steps."""
        at = 0
        while at < len(self.steps):
            self.step(at)
            at += 1
        return list(self.steps)

    def dropping_step(self, number):
        """Returns the step that decodes a value which is dropped."""
        form = self.written.form(number)
        inner = [self.index_of(part, None) for part in self.written.parts(number)]
        if form[0] == "array" or form[0] == "map":
            return (form[0], inner[0])
        if form[0] == "union":
            return ("union", tuple(inner))
        if form[0] == "record":
            return ("record", tuple([(index, None) for index in inner]), ())
        return ("simple", form)

    def reading_step(self, number, goal):
        """Returns the step that reads a value of the writer as one of the reader."""
        shape = self.written.shapes[number]
        wanted = self.wanted.shapes[goal]
        if shape[0] == "union":
            return ("union", tuple([self.index_of(part, goal) for part in self.written.parts(number)]))
        if wanted[0] == "union":
            at = self.matcher.best_branch(shape, wanted[1])
            if at is None:
                return UNREADABLE
            return ("branch", at, self.index_of(number, self.wanted.parts(goal)[at]))
        if self.matcher.is_same_kind(shape, wanted):
            return self.same_kind_step(number, goal)
        step = turned(shape, wanted)
        return UNREADABLE if step is None else step

    def same_kind_step(self, number, goal):
        """Returns the step for two shapes of the same kind."""
        form = self.written.form(number)
        wanted = self.wanted.form(goal)
        if form[0] == "array" or form[0] == "map":
            return (form[0], self.index_of(self.written.parts(number)[0], self.wanted.parts(goal)[0]))
        if form[0] == "record":
            return self.record_step(number, goal)
        if form[0] == "choice":
            return ("choice", tuple([symbol if symbol in wanted[2] else wanted[3] for symbol in form[2]]))
        if form[0] == "fixed" and form[2] != wanted[2]:
            return UNREADABLE
        return ("simple", form)

    def record_step(self, number, goal):
        """Returns the step for two records."""
        fields = self.written.form(number)[2]
        targets = {}
        parts = []
        for at, field in enumerate(self.wanted.form(goal)[2]):
            source = source_of(field, fields)
            if source is None and field[2] is None:
                return UNREADABLE
            if source is None:
                parts.append(value_of_json(self.reader, field[1], field[2][0]))
            else:
                parts.append(None)
                targets[source] = at
        goals = self.wanted.parts(goal)
        rows = []
        for at, part in enumerate(self.written.parts(number)):
            target = targets.get(at)
            rows.append((self.index_of(part, None if target is None else goals[target]), target))
        return ("record", tuple(rows), tuple(parts))


def read_as(writer, reader, octets, at=0):
    """Returns the value of the reader that is read at a place, and the place behind the octets."""
    # Only the steps that the octets need are worked out.
    return run_steps(Planner(writer, reader), octets, at)
