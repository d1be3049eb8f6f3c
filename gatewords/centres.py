"""What commutes with words, and what words are conjugated to."""

from gatewords.equations import conjugators_told, solutions_told, want_sides
from gatewords.errors import TooMany
from gatewords.leading import led_along
from gatewords.letters import rank, want_word
from gatewords.rowjoins import both, joined
from gatewords.shapes import shape_of
from gatewords.steadies import want_steady

MOST_CONJUGATES = 100


def centralizer(sides, word):
    """The machine that takes the normal words that commute with a word."""
    return conjugators_told(sides, word, word)


def centre(sides):
    """The machine that takes the normal words that commute with all letters."""
    want_sides(sides)
    many = len(sides.lefts)
    found = solutions_told(sides, (0,), (0,))
    for letter in range(1, many):
        further = solutions_told(sides, (letter,), (letter,))
        found = joined(many, shape_of(found), shape_of(further), both)
    return found


def is_commutative(steady):
    """Whether each two letters are alike in either sequence."""
    want_steady(steady)
    many = len(steady.tables)
    for one in range(many):
        for other in range(one):
            word = led_along(steady.tables, (), (one, other))
            if word != led_along(steady.tables, (), (other, one)):
                return False
    return True


def conjugates(sides, word):
    """The list of all normal words of what a word is conjugated to."""
    want_sides(sides)
    steady = sides.steady
    back = steady.claim.group.back
    want_word(back, word)
    start = led_along(steady.tables, (), word)
    known = {start: True}
    waiting = [start]
    while waiting:
        here = waiting.pop()
        for letter, undoing in enumerate(back):
            to = led_along(steady.tables, (), (undoing,) + here + (letter,))
            if to not in known:
                known[to] = True
                waiting.append(to)
        if len(known) > MOST_CONJUGATES:
            raise TooMany(MOST_CONJUGATES)
    return sorted(known, key=rank)
