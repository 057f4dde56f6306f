"""The words of steps of programs, what stands behind each word, and what is a step."""

from allcells.errors import InvalidSaying, InvalidStep
from allcells.sayings import checked
from allcells.terms import check_name, check_place_term, check_value_term, copied

STEP_SHAPES = {
    "set_place": ("new place", "place"),
    "set_value": ("new value", "value"),
    "put": ("array", "place", "value"),
    "exchange": ("array", "place", "place"),
    "copy": ("array", "array", "place", "place"),
    "if": ("conditions", "steps", "steps"),
    "loop": ("conditions", "kept", "steps"),
}
NAME_KINDS = ("new place", "new value", "array")
LIST_KINDS = ("conditions", "kept", "steps")
CONDITION_WORDS = ("place", "value")


def kinds_in(step):
    """Returns the list of the tuples of each part of a step and its kind, from the left."""
    return list(zip(step[1:], STEP_SHAPES[step[0]]))


def inner_steps(step):
    """Returns the list of the steps that stand in a step."""
    return [inner for part, kind in kinds_in(step) if kind == "steps" for inner in part]


def all_steps(steps):
    """Returns the list of some steps, each with those in it behind it."""
    return [each for step in steps for each in [step] + all_steps(inner_steps(step))]


def has_step_form(step):
    """Tells whether a value has a word, a length and lists as steps have them."""
    if not isinstance(step, tuple) or not step or not isinstance(step[0], str):
        return False
    if step[0] not in STEP_SHAPES or len(step) != 1 + len(STEP_SHAPES[step[0]]):
        return False
    return all([isinstance(part, list) for part, kind in kinds_in(step) if kind in LIST_KINDS])


def check_steps(steps, inside):
    """Raises the error of the first value that is no step; no loop stands inside another step."""
    for step in steps:
        if not has_step_form(step) or inside and step[0] == "loop":
            raise InvalidStep(copied(step))
        for part, kind in kinds_in(step):
            check_step_part(part, kind)
        check_steps(inner_steps(step), True)


def check_step_part(part, kind):
    """Raises the error of a part of a step that is not of its kind; inner steps are left out."""
    if kind in NAME_KINDS:
        check_name(part)
    elif kind == "place":
        check_place_term(part)
    elif kind == "value":
        check_value_term(part)
    elif kind == "kept":
        for saying in part:
            checked(saying)
    elif kind == "conditions":
        for saying in part:
            check_condition(saying)


def check_condition(saying):
    """Raises the error of a value that is no statement of two terms."""
    if checked(saying)[0] not in CONDITION_WORDS:
        raise InvalidSaying(saying)


def sayings_naming(steps):
    """Returns a list of statements in which just the names stand that stand in some steps."""
    parts = [pair for step in all_steps(steps) for pair in kinds_in(step)]
    return [saying for part, kind in parts for saying in naming(part, kind)]


def naming(part, kind):
    """Returns a list of statements in which just the names stand of a part of a step; inner steps are left out."""
    if kind == "array":
        return [("rising", part, None, None)]
    if kind == "new place":
        return [("place", (part, 0), (part, 0))]
    if kind == "new value":
        return [("value", (part, 0), (part, 0))]
    if kind in CONDITION_WORDS:
        return [(kind, part, part)]
    return [] if kind == "steps" else part
