"""How many letters lead to normal words at least."""

from gatewords.errors import BadNumber, TooMany
from gatewords.leading import lead_on, led_along, new_rows
from gatewords.letters import is_number_in, want_word
from gatewords.shortness import longer_told
from gatewords.steadies import want_steady

MOST_FOUND = 3000


def words_led_to(steady, known, level, far):
    """Put the normal words not known yet to which letters lead those of a level into known, so far away."""
    further = []
    for word in level:
        for letter in range(len(steady.tables)):
            to = led_along(steady.tables, word, (letter,))
            if to not in known:
                known[to] = far
                further.append(to)
    return further


def ball_told(steady, most):
    """The dict that tells the distances of all normal words with at most this distance."""
    known = {(): 0}
    level = [()]
    far = 0
    while level and far < most:
        far += 1
        level = words_led_to(steady, known, level, far)
        if len(known) > MOST_FOUND:
            raise TooMany(MOST_FOUND)
    return known


def ball(steady, most):
    """The ascending list of pairs of a distance, at most most, and a normal word."""
    want_steady(steady)
    if not is_number_in(most, 0, 40):
        raise BadNumber("most")
    known = ball_told(steady, most)
    return sorted([(known[word], word) for word in known])


def distances_up_to(steady, goal):
    """The distances of all normal words that are no further away than one of them."""
    known = {(): 0}
    level = [()]
    far = 0
    while goal not in known:
        # All words met so far have a lesser distance.
        if len(known) > MOST_FOUND:
            raise TooMany(MOST_FOUND)
        far += 1
        level = words_led_to(steady, known, level, far)
    return known


def distance(steady, word):
    """The distance of the normal word of a word."""
    want_steady(steady)
    want_word(steady.claim.group.back, word)
    goal = led_along(steady.tables, (), word)
    if longer_told(steady) is None:
        return len(goal)
    return distances_up_to(steady, goal)[goal]


def is_so_far(known, word, far):
    """Whether a normal word has this distance; known is None where its letters tell it."""
    return len(word) == far if known is None else known.get(word) == far


def ends_further(steady, known, ends, far):
    """The ends of shortest words, by the normal word ahead of them, with one more letter ahead.

    far is the distance of the normal words that then are ahead of them.
    """
    back = steady.claim.group.back
    longer = {}
    many = 0
    for word in ends:
        for letter in range(len(back)):
            before = led_along(steady.tables, word, (back[letter],))
            if is_so_far(known, before, far):
                longer.setdefault(before, []).extend([(letter,) + end for end in ends[word]])
                many += len(ends[word])
        # Each end belongs to some shortest word at least.
        if many > MOST_FOUND:
            raise TooMany(MOST_FOUND)
    return longer


def shortest_words(steady, word):
    """All words, as short as any, that lead from () to the normal word of a word."""
    want_steady(steady)
    want_word(steady.claim.group.back, word)
    goal = led_along(steady.tables, (), word)
    known = None if longer_told(steady) is None else distances_up_to(steady, goal)
    far = len(goal) if known is None else known[goal]
    ends = {goal: [()]}
    while far:
        far -= 1
        ends = ends_further(steady, known, ends, far)
    return sorted(ends[()])


def order_of(steady, word, most):
    """How many times, at most most, a word leads () to () for the first time; None if it does not."""
    want_steady(steady)
    want_word(steady.claim.group.back, word)
    if not is_number_in(most, 1, 200):
        raise BadNumber("most")
    many = len(steady.tables)
    # What was read is kept over all times, since words grow long here.
    rows = new_rows(steady.tables)
    here = []
    for times in range(1, most + 1):
        for letter in word:
            lead_on(many, steady.tables, rows, here, letter)
        if not here:
            return times
    return None
