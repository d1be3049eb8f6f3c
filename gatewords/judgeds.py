"""Claims that were judged to hold."""

from gatewords.errors import BadJudged
from gatewords.papers import is_paper
from gatewords.ruleways import broken_rule
from gatewords.steadies import Steady


class Judged:
    """A claim that holds, with the paper that shows it."""

    def __init__(self, claim, paper):
        steady = Steady(claim)
        if broken_rule(steady) is not None:
            raise BadJudged("rules")
        if not is_paper(steady, paper):
            raise BadJudged("paper")
        self.claim = claim
        self.paper = tuple([tuple(road) for road in paper])
        self.steady = steady

    def __eq__(self, other):
        return isinstance(other, Judged) and self.claim == other.claim and self.paper == other.paper


def want_judged(judged):
    """BadJudged(None) unless a Judged."""
    if not isinstance(judged, Judged):
        raise BadJudged(None)
