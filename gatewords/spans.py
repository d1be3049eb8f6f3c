"""Words alike at a span, which is as far as words of so many letters tell."""

from gatewords.completing import completed
from gatewords.errors import BadNumber
from gatewords.groups import MOST_SIDE, want_group
from gatewords.letters import is_number_in

LEAST_SPAN = 2


def want_span(most):
    """BadNumber("most") unless a span."""
    if not is_number_in(most, LEAST_SPAN, MOST_SIDE):
        raise BadNumber("most")


def system_at(group, span):
    """The System of a span."""
    return completed(group, span).system()


def spanned(group, most):
    """The System that reduces words of at most most letters to the least ones alike at this span."""
    want_group(group)
    want_span(most)
    return system_at(group, most)
