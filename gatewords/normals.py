"""Normal words of words."""

from gatewords.leading import led_along, trail_along
from gatewords.letters import turned_back, want_word
from gatewords.steadies import want_steady


def normal(steady, word):
    """The normal word to which a word leads from ()."""
    want_steady(steady)
    want_word(steady.claim.group.back, word)
    return led_along(steady.tables, (), word)


def trail(steady, word):
    """The normal words of the beginnings of a word, () first."""
    want_steady(steady)
    want_word(steady.claim.group.back, word)
    return trail_along(steady.tables, word)


def is_alike(steady, one, other):
    """Whether two words lead from () to the same normal word."""
    want_steady(steady)
    want_word(steady.claim.group.back, one)
    want_word(steady.claim.group.back, other)
    return led_along(steady.tables, (), one) == led_along(steady.tables, (), other)


def normal_undone(steady, word):
    """The normal word of what undoes a word."""
    want_steady(steady)
    back = steady.claim.group.back
    want_word(back, word)
    return led_along(steady.tables, (), turned_back(back, word))
