"""Questions and deeds, judged by their kinds alone."""

from gatewords.changes import is_change
from gatewords.groups import MOST_RULES
from gatewords.letters import MOST_BACK, MOST_LETTERS, is_number_in, is_row, is_short_row

MOST_TOLD = 10 ** 9
MOST_TIMES = 200


def is_asked_word(thing):
    """Whether any value is a tuple of at most 200 numbers of letters of some group."""
    return is_short_row(MOST_BACK, thing, MOST_LETTERS)


def has_form(thing, kind, size):
    """Whether any value is a tuple of so many things, this string first."""
    return isinstance(thing, tuple) and len(thing) == size and isinstance(thing[0], str) and thing[0] == kind


def judged_question(thing):
    """Whether any value is a question."""
    if has_form(thing, "alike", 3):
        return is_asked_word(thing[1]) and is_asked_word(thing[2])
    if has_form(thing, "normal", 2):
        return is_asked_word(thing[1])
    if has_form(thing, "order", 3):
        return is_asked_word(thing[1]) and is_number_in(thing[2], 1, MOST_TIMES)
    return has_form(thing, "finite", 1)


def is_told(thing):
    """Whether any value is a number as values tell them."""
    return is_number_in(thing, 0, MOST_TOLD)


def is_way_value(thing):
    """Whether any value is a tuple of numbers and None."""
    return isinstance(thing, tuple) and all([to is None or is_told(to) for to in thing])


def is_machine_value(thing):
    """Whether any value has the kinds of what a Machine is made of."""
    if not isinstance(thing, tuple) or len(thing) != 3 or not is_told(thing[0]):
        return False
    if not isinstance(thing[1], tuple) or not all([is_way_value(way) for way in thing[1]]):
        return False
    return is_row(MOST_TOLD + 1, thing[2])


def is_step_value(thing):
    """Whether any value has the kinds of a step."""
    if not isinstance(thing, tuple) or len(thing) != 3 or not is_told(thing[0]):
        return False
    return is_row(MOST_BACK, thing[1]) and is_row(MOST_BACK, thing[2])


def is_road_value(thing):
    """Whether any value is a tuple of what has the kinds of steps."""
    return isinstance(thing, tuple) and all([is_step_value(step) for step in thing])


def is_claim_deed(thing):
    """Whether any value tells machines and a paper."""
    if not has_form(thing, "claim", 4) or not is_machine_value(thing[1]):
        return False
    if not isinstance(thing[2], tuple) or not all([is_machine_value(near) for near in thing[2]]):
        return False
    return isinstance(thing[3], tuple) and all([is_road_value(road) for road in thing[3]])


def judged_deed(thing):
    """Whether any value is a deed."""
    if is_change(thing) or is_claim_deed(thing):
        return True
    if has_form(thing, "swap", 3):
        return is_number_in(thing[1], 0, MOST_RULES - 1) and is_road_value(thing[2])
    if has_form(thing, "ask", 2):
        return judged_question(thing[1])
    return has_form(thing, "unask", 2) and is_told(thing[1])
