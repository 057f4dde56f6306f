"""Programs: steps that put, exchange and copy cells, with tests and loops, and how they run."""

from allcells.errors import TooLong, Unknown
from allcells.rows import overwritten
from allcells.sayings import all_true
from allcells.states import State
from allcells.steps import all_steps, check_steps, kinds_in
from allcells.terms import copied


class Program:
    """A list of steps; it never changes."""

    def __init__(self, steps):
        check_steps(steps, False)
        self._steps = copied(steps)

    @property
    def steps(self):
        """The list of the steps."""
        return copied(self._steps)

    def then(self, other):
        """Returns the program with the steps of this one, and behind them those of another."""
        return Program(self._steps + other._steps)

    def __add__(self, other):
        return self.then(other)

    def __len__(self):
        return len(all_steps(self._steps))

    def __eq__(self, other):
        return isinstance(other, Program) and self._steps == other._steps


class Meter:
    """Counts what a run does, and refuses more than the most that it may do."""

    def __init__(self, most):
        self.most = most
        self.done = 0

    def tick(self):
        """Counts one more."""
        if self.done >= self.most:
            raise TooLong(self.most)
        self.done = self.done + 1


def run(program, state, most):
    """Returns the state after a program that counts no more steps and looks than it may."""
    return after_steps(program.steps, state, Meter(most))


def after_steps(steps, state, meter):
    """Returns the state after some steps."""
    for step in steps:
        meter.tick()
        state = after_step(step, state, meter)
    return state


def after_step(step, state, meter):
    """Returns the state after a step that has been counted."""
    if step[0] == "if":
        branch = step[2] if looked_at(step[1], state, meter) else step[3]
        return after_steps(branch, state, meter)
    if step[0] == "loop":
        while looked_at(step[1], state, meter):
            state = after_steps(step[3], state, meter)
        return state
    return changed(state, step[0], [thing_read(part, kind, state) for part, kind in kinds_in(step)])


def looked_at(conditions, state, meter):
    """Counts a look at conditions, and tells whether all are true."""
    meter.tick()
    return all_true(conditions, state)


def thing_read(part, kind, state):
    """Returns the integer of a term, or a name itself; an array must be there."""
    if kind == "place":
        return state.place_of(part)
    if kind == "value":
        return state.value_of(part)
    if kind == "array" and part not in state.arrays:
        raise Unknown(part)
    return part


def changed(state, word, things):
    """Returns the state after a step without other steps in it, whose terms have been read."""
    if word == "put":
        return state.with_cell(things[0], things[1], things[2])
    if word == "exchange":
        return exchanged(state, things[0], things[1], things[2])
    places, numbers, arrays = state.places, state.numbers, state.arrays
    if word == "set_place":
        places[things[0]] = things[1]
    elif word == "set_value":
        numbers[things[0]] = things[1]
    else:
        array, source, first, last = things
        arrays[array] = overwritten(arrays[array], arrays[source], first, last)
    return State(places, numbers, arrays)


def exchanged(state, array, one, other):
    """Returns the state in which the cells of an array at two places are exchanged."""
    here = state.value_of((array, ("", one), 0))
    there = state.value_of((array, ("", other), 0))
    return state.with_cell(array, one, there).with_cell(array, other, here)
