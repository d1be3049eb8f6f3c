"""Whether the rules of a claim's group lead all normal words alike."""

from gatewords.alongs import least_unlike
from gatewords.points import points_of
from gatewords.steadies import want_steady


def broken_rule(steady):
    """The place of the first rule whose sides lead unlike, and the least word so led, or None."""
    points = points_of(steady)
    for place, (one, other) in enumerate(steady.claim.group.rules):
        word = least_unlike(steady, points, one, other)
        if word is not None:
            return (place, word)
    return None


def broken(steady):
    """The place of the first rule whose sides lead unlike, and the least word so led, or None."""
    want_steady(steady)
    return broken_rule(steady)
