"""All normal words of a claim, where they are few, as points that letters move.

What is asked of all normal words is asked so of few ones by going through them.
"""

from gatewords.leading import letters_beside, new_rows, read_on, tail_of
from gatewords.letters import rank
from gatewords.rowgrowth import how_many
from gatewords.shapes import shape_of, trimmed

MOST_WORDS = 3000


def few_rows(machine):
    """All rows that a machine takes, in Python's order of tuples, None if they are too many."""
    many = how_many(machine)
    if many is None or many > MOST_WORDS:
        return None
    ways, ends = trimmed(shape_of(machine))
    found = []
    waiting = [((), 0)]
    while waiting:
        row, state = waiting.pop()
        if ends[state]:
            found.append(row)
        for number in sorted(ways[state], reverse=True):
            waiting.append((row + (number,), ways[state][number]))
    return found


def alike_up_to(one, other):
    """With how many letters two words begin alike."""
    size = min(len(one), len(other))
    for at in range(size):
        if one[at] != other[at]:
            return at
    return size


def word_beside(many, table, rows, word):
    """The word to which the letter of a table leads a word; rows are put behind those of it."""
    read_on(table, rows, word)
    state, tail = tail_of(many, table, list(rows[-1]))
    alike, letters = letters_beside(many, rows, state)
    return word[:alike] + tuple(letters + tail)


def led_by_letters(tables, words):
    """For each letter the dict that tells for each of the words the one to which it leads.

    The words are in Python's order, so that each begins as the one ahead does
    as far as can be, and what was read of this is kept.
    """
    many = len(tables)
    rows = new_rows(tables)
    found = [{} for _ in tables]
    last = ()
    for word in words:
        alike = alike_up_to(last, word)
        for letter in range(many):
            del rows[letter][alike + 1:]
            found[letter][word] = word_beside(many, tables[letter], rows[letter], word)
        last = word
    return found


def points_of(steady):
    """The normal words of a Steady in their order, and for each letter how it moves their places.

    None if the words are too many.
    """
    words = few_rows(steady.claim.words)
    if words is None:
        return None
    led = led_by_letters(steady.tables, words)
    words = sorted(words, key=rank)
    places = {word: place for place, word in enumerate(words)}
    return words, [[places[behind[word]] for word in words] for behind in led]


def places_led(moves, places, word):
    """The places to which the letters of a word, one after another, move some places."""
    for letter in word:
        move = moves[letter]
        places = [move[place] for place in places]
    return places


def all_places_led(points, word):
    """The places to which a word leads the words of points, one for each."""
    words, moves = points
    return places_led(moves, list(range(len(words))), word)


def first_point_unlike(points, one, other):
    """The first of the words of points that two words lead to unlike ones, None if there is none."""
    goals = all_places_led(points, one)
    other_goals = all_places_led(points, other)
    for word, to, other_to in zip(points[0], goals, other_goals):
        if to != other_to:
            return word
    return None
