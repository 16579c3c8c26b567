"""Readings that are worked out once."""

from formkeeper.reading import Planner
from formkeeper.steps import run_steps


class Plan:
    """A list of steps, which are told in formkeeper.steps; the first one is that of the roots."""

    def __init__(self, steps):
        self.steps = steps

    def step(self, index):
        """Returns the step at an index."""
        return self.steps[index]


def make_plan(writer, reader):
    """Returns the Plan of reading data of the writer as data of the reader."""
    return Plan(Planner(writer, reader).all_steps())


def run_plan(plan, octets, at=0):
    """Returns the value of the reader that is read at a place, and the place behind the octets."""
    return run_steps(plan, octets, at)
