"""Duties: what parts of a program must do if the program is to keep a promise."""

from allcells.naming import fresh_names, state_with_names
from allcells.paths import Path, paths_through, saying_now, ways_not_all
from allcells.placing import state_before
from allcells.programs import Program, run
from allcells.sayings import all_true, is_true, names_of, opposites
from allcells.steps import all_steps, sayings_naming


class Duty:
    """The steps of a part without a loop must make the wanted statements true, from each state
    in which all statements of `start`, and all of one of the lists in `ways`, are true."""

    def __init__(self, word, start, ways, part, wanted):
        self.word = word
        self.start = start
        self.ways = ways
        self.part = part
        self.wanted = wanted


def loop_index(steps):
    """Returns the index of the first loop among steps, None if there is none."""
    for index, step in enumerate(steps):
        if step[0] == "loop":
            return index
    return None


def duties_from(start, ways, steps, behind):
    """Returns the list of the duties of steps that must make some statements true, from each
    state in which all statements of `start`, and all of one of the lists in `ways`, are true."""
    index = loop_index(steps)
    if index is None:
        return [Duty("end", start, ways, steps, behind)]
    _, conditions, kept, body = steps[index]
    duties = [Duty("ahead", start, ways, steps[:index], kept), Duty("round", kept + conditions, [[]], body, kept)]
    return duties + duties_from(kept, ways_not_all(conditions), steps[index + 1:], behind)


def names_at(duty, saying):
    """Returns the names of what a duty starts from, of its part, and of a statement."""
    chosen = [each for way in duty.ways for each in way]
    return names_of(duty.start + chosen + sayings_naming(duty.part) + [saying])


def spare_names(names, steps):
    """Returns as many free names as a path through steps can need: two new arrays for an
    exchange, a choice for a test, and for a duty two choices more and two places of opposites."""
    return fresh_names(names, 4 + 2 * len(all_steps(steps)))


def state_against(duty, saying):
    """Returns a state from which a duty starts and behind whose part a statement is false, or None."""
    names = names_at(duty, saying)
    spare = spare_names(names, duty.part)
    wider = (names[0] + spare[:2], names[1], names[2])
    for path in paths_through(duty.part, Path({}, [duty.ways], [], spare[2:])):
        ways = opposites(saying_now(path, saying), tuple(spare[:2]))
        state = state_going(path, wider, duty.start, ways)
        if state is not None:
            return state_with_names(state, names)
    return None


def state_going(path, names, sayings, ways):
    """Returns a state from which a run goes a path, and in which statements, and all of one of
    the lists in `ways`, are true, or None. It has more names than those in `names`."""
    choices = list(zip(path.spare, path.choices + [ways]))
    return state_before(names, sayings, choices, path.writes)


def is_against(duty, saying, state):
    """Tells whether a state has all names of a duty and a statement, whether the duty starts
    from it, and whether the statement is false behind the part."""
    there = (state.places, state.numbers, state.arrays)
    for names, having in zip(names_at(duty, saying), there):
        if not all([name in having for name in names]):
            return False
    if not all_true(duty.start, state) or not any([all_true(way, state) for way in duty.ways]):
        return False
    program = Program(duty.part)
    return not is_true(saying, run(program, state, 2 * len(program)))
