"""Groups that are settled at a span, and their one complete system."""

from gatewords.clashes import clash_beyond
from gatewords.completing import Completion
from gatewords.groups import want_group
from gatewords.spans import LEAST_SPAN, want_span


def least_room(group):
    """The least span with room for all sides of the rules."""
    return max([LEAST_SPAN] + [len(side) for rule in group.rules for side in rule])


def settled_at(group, most):
    """The least span up to most at which a group is settled, with the System there, or None."""
    completion = Completion(group, most)
    for span in range(least_room(group), most + 1):
        completion.go_on(span)
        system = completion.system()
        # Shorter words that overlap clash at no span.
        if clash_beyond(system, span) is None:
            return span, system
    return None


def settled_span(group, most):
    """The least span up to most at which a group is settled, None if there is none."""
    want_group(group)
    want_span(most)
    found = settled_at(group, most)
    return None if found is None else found[0]


def complete(group, most):
    """The complete system of a group settled at some span up to most, None if it is not."""
    want_group(group)
    want_span(most)
    found = settled_at(group, most)
    return None if found is None else found[1]
