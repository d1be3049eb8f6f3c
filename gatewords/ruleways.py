"""Whether the rules of a claim's group lead all normal words alike."""

from gatewords.alongs import Leads
from gatewords.steadies import want_steady


def broken_rule(steady):
    """The place of the first rule whose sides lead unlike, and the least word so led, or None."""
    leads = Leads(steady)
    for place, (one, other) in enumerate(steady.claim.group.rules):
        word = leads.unlike(one, other)
        if word is not None:
            return (place, word)
    return None


def broken(steady):
    """The place of the first rule whose sides lead unlike, and the least word so led, or None."""
    want_steady(steady)
    return broken_rule(steady)
