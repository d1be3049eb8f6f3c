"""Claims found by spans and differences, and papers found by spans."""

from gatewords.completing import Completion
from gatewords.differences import differences_up_to, want_short
from gatewords.errors import BadSteady
from gatewords.groups import want_group
from gatewords.ledpairs import claim_told
from gatewords.loops import loops_of
from gatewords.ruleways import broken_rule
from gatewords.settling import least_room
from gatewords.spanroads import roads_at
from gatewords.spans import system_at, want_span
from gatewords.steadies import Steady, want_steady
from gatewords.systems import reduced_by


def claim_made(group, most, short):
    """The Claim that the short differences at a span make."""
    want_group(group)
    want_span(most)
    want_short(short)
    system = system_at(group, most)
    return claim_told(group, system, differences_up_to(system, short))


def does_hold(claim):
    """Whether a claim that was made holds: it has no fault and breaks no rule."""
    try:
        return broken_rule(Steady(claim)) is None
    except BadSteady:
        return False


def claim_at(group, system, short):
    """The pair of the least length up to short of which the claim made holds, and this claim, or None."""
    last = None
    for length in range(short + 1):
        words = differences_up_to(system, length)
        # The same differences make the same claim.
        if words == last:
            continue
        last = words
        claim = claim_told(group, system, words)
        if does_hold(claim):
            return length, claim
    return None


def claim_found(group, most, short):
    """The least span up to most and the least length up to short of which a claim holds, with it, or None."""
    want_group(group)
    want_span(most)
    want_short(short)
    completion = Completion(group, most)
    last = None
    for span in range(least_room(group), most + 1):
        completion.go_on(span)
        system = completion.system()
        # The same system makes the same claims, of which none held.
        if system == last:
            continue
        last = system
        found = claim_at(group, system, short)
        if found is not None:
            return (span,) + found
    return None


def paper_spanned(steady, most):
    """A paper by roads of a span, None unless all loops are short and alike with () at this span."""
    want_steady(steady)
    want_span(most)
    roads = roads_at(steady.claim.group, most)
    words = loops_of(steady.claim)
    system = roads.completion.system()
    if any([len(word) > most or reduced_by(system, word) != () for word in words]):
        return None
    return [roads.to_reduced(word) for word in words]
