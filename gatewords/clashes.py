"""Words that rules of a system lead to two unlike reduced words."""

from gatewords.systems import reduced_by, want_system


def rules_by_fronts(system):
    """For each shorter word with which left sides begin the list of their rules."""
    found = {}
    for left, right in system.rules:
        for size in range(1, len(left)):
            found.setdefault(left[:size], []).append((left, right))
    return found


def overlaps(system, beyond):
    """The words of more than so many letters that overlap, in order, each with both words to which it leads."""
    fronts = rules_by_fronts(system)
    found = []
    for left, right in system.rules:
        for size in range(1, len(left)):
            for other, other_right in fronts.get(left[-size:], []):
                if len(left) + len(other) - size > beyond:
                    word = left + other[size:]
                    found.append((len(word), word, right + other[size:], left[:-size] + other_right))
    return [(word, one, other) for _, word, one, other in sorted(found)]


def clash_beyond(system, beyond):
    """The least word of more than so many letters that overlaps and leads to unlike reduced words, or None."""
    told = overlaps(system, beyond)
    for word, first, second in told:
        one = reduced_by(system, first)
        other = reduced_by(system, second)
        if one != other:
            return (word, one, other)
    return None


def least_clash(system):
    """The least word that overlaps and leads to unlike reduced words, with both, or None."""
    want_system(system)
    return clash_beyond(system, 0)
