"""Whether a program does for all states what is promised of it, and states with which it does not."""

from allcells.judging import is_index
from allcells.paths import Path, paths_through, term_now, ways_not_all
from allcells.promises import Duty, duties_from, is_against, loop_index, spare_names, state_against, state_going
from allcells.sayings import check_all, names_of
from allcells.steps import sayings_naming
from allcells.terms import check_place_term, increased


def holds(ahead, program, behind):
    """Tells whether all duties of a program are done."""
    return first_gap(ahead, program, behind) is None


def duties(ahead, program, behind):
    """Returns the list of the tuples (word, index) of the statements that duties do not make true."""
    check_all(ahead + behind)
    return [
        (duty.word, index)
        for duty in duties_from(ahead, [[]], program.steps, behind)
        for index, saying in enumerate(duty.wanted)
        if state_against(duty, saying) is not None
    ]


def first_gap(ahead, program, behind):
    """Returns a tuple (word, index, state) of the first statement that a duty does not make true, or None."""
    check_all(ahead + behind)
    for duty in duties_from(ahead, [[]], program.steps, behind):
        for index, saying in enumerate(duty.wanted):
            state = state_against(duty, saying)
            if state is not None:
                return (duty.word, index, state)
    return None


def judge_gap(ahead, program, behind, told):
    """Tells whether a tuple (word, index, state) shows that a duty does not make a statement true."""
    check_all(ahead + behind)
    word, index, state = told
    for duty in duties_from(ahead, [[]], program.steps, behind):
        if duty.word == word and is_index(index, duty.wanted) and is_against(duty, duty.wanted[index], state):
            return True
    return False


def largest_kept(ahead, program, offered):
    """Returns the ascending list of the indexes of all statements that a loop can keep together.

    A statement that is lost in a round from some list is also lost from each part of this list.
    """
    check_all(ahead + offered)
    steps = program.steps
    index = loop_index(steps)
    _, conditions, _, body = steps[index]
    begun = Duty("ahead", ahead, [[]], steps[:index], offered)
    left = [at for at, saying in enumerate(offered) if state_against(begun, saying) is None]
    before = []
    while left != before:
        before = left
        kept = [offered[at] for at in before]
        each = Duty("round", kept + conditions, [[]], body, kept)
        left = [at for at in before if state_against(each, offered[at]) is None]
    return left


def ends(program, p, q):
    """Tells whether each round of a loop begins with p at most q, raises p, and does not raise q."""
    check_place_term(p)
    check_place_term(q)
    steps = program.steps
    _, conditions, kept, body = steps[loop_index(steps)]
    names = names_of(kept + conditions + sayings_naming(body) + [("place", p, q)])
    for path in paths_through(body, Path({}, [], [], spare_names(names, body))):
        raising = ("place", increased(p), term_now(path, p))
        staying = ("place", term_now(path, q), q)
        wrong = ways_not_all([("place", p, q), raising, staying])
        if state_going(path, names, kept + conditions, wrong) is not None:
            return False
    return True
