"""Claims without fault, whose letters lead normal words to normal words."""

from gatewords.claims import want_claim
from gatewords.errors import BadSteady, BadWord
from gatewords.faults import fault, is_normal
from gatewords.leading import led_along, tables_of
from gatewords.letters import want_letters


class Steady:
    """A claim without fault."""

    def __init__(self, claim):
        want_claim(claim)
        found = fault(claim)
        if found is not None:
            raise BadSteady(found)
        self.claim = claim
        # Made ready once, since leading words is asked for again and again.
        self.tables = tables_of(claim)

    def __eq__(self, other):
        return isinstance(other, Steady) and self.claim == other.claim


def want_steady(steady):
    """BadSteady(None) unless a Steady."""
    if not isinstance(steady, Steady):
        raise BadSteady(None)


def led(steady, start, word):
    """The normal word to which the letters of a word, one after another, lead a normal one."""
    want_steady(steady)
    if not is_normal(steady.claim, start):
        raise BadWord("not a normal word")
    want_letters(steady.claim.group.back, word)
    return led_along(steady.tables, start, word)
