"""Where the letters of a word, one after another, lead all normal words at once."""

from gatewords.composing import composed_on_the_way
from gatewords.leading import led_along
from gatewords.leastrows import least_row
from gatewords.letters import freed, turned_back, want_letters
from gatewords.loops import loops_of
from gatewords.partners import marks_of_tails, ways_beside
from gatewords.pairs import row_of_pair
from gatewords.points import all_places_led, first_point_unlike, points_of
from gatewords.projections import ways_by_first
from gatewords.rowmakers import folded_tree, tree_of
from gatewords.shapes import least_shape, machine_of, shape_of
from gatewords.steadies import want_steady

MOST_LETTERS_TOLD = 1000000
# So many letters lead on one by one; longer words are put together of halves.
MOST_ONE_BY_ONE = 40


def letters_shape(claim, letters):
    """The shape of the pairs of a normal word and where some letters, at least one, lead it."""
    many = len(claim.group.back)
    if len(letters) > MOST_ONE_BY_ONE:
        half = len(letters) // 2
        return composed_on_the_way(many, letters_shape(claim, letters[:half]), letters_shape(claim, letters[half:]))
    shape = least_shape(shape_of(claim.nears[letters[0] + 1]))
    for letter in letters[1:]:
        near = least_shape(shape_of(claim.nears[letter + 1]))
        shape = composed_on_the_way(many, shape, near)
    return shape


def along_shape(claim, word):
    """The shape, in its least form, of the pairs of a normal word and where a word leads it."""
    # What undoes a letter leads back, so that neighbours that undo one another lead nowhere.
    letters = freed(claim.group.back, word)
    return letters_shape(claim, letters) if letters else least_shape(shape_of(claim.nears[0]))


def points_shape(many, points, word):
    """The shape, in its least form, of the pairs of words and where a word leads them, of points."""
    words = points[0]
    goals = all_places_led(points, word)
    rows = [row_of_pair(many, one, words[to]) for one, to in zip(words, goals)]
    return least_shape(folded_tree(tree_of(rows)))


def along(steady, word):
    """The near that pairs each normal word with the one to which a word leads it."""
    want_steady(steady)
    back = steady.claim.group.back
    many = len(back)
    want_letters(back, word)
    points = points_of(steady)
    # Few words, told one by one, need no standings of longer and longer words on the way.
    if points is not None and sum([len(one) for one in points[0]]) <= MOST_LETTERS_TOLD:
        return machine_of((many + 1) ** 2, points_shape(many, points, word))
    return machine_of((many + 1) ** 2, along_shape(steady.claim, word))


def tail_letters(tails, live, ends, state):
    """The letters of the second word alone that lead a state to an end; there is one way at most."""
    letters = []
    while not ends[state]:
        way = tails[state]
        letter = [second for second in way if live[way[second]]][0]
        letters.append(letter)
        state = way[letter]
    return letters


def least_apart(many, one, other):
    """The least word that two shapes, pairing each word with just one, pair with unlike ones.

    A standing has a state of each and whether the second words are unlike so far.
    """
    by_first = ways_by_first(many, one[0])
    other_by_first = ways_by_first(many, other[0])
    tails = ways_beside(many, one[0], many)
    other_tails = ways_beside(many, other[0], many)
    live = marks_of_tails(one, tails)
    other_live = marks_of_tails(other, other_tails)

    def steps(standing):
        found = []
        further = other_by_first[standing[1]]
        for first, pairs in by_first[standing[0]].items():
            if first == many:
                continue
            for second, to in pairs:
                for other_second, other_to in further.get(first, []):
                    found.append((first, (to, other_to, standing[2] or second != other_second)))
        return found

    def is_end(standing):
        if not live[standing[0]] or not other_live[standing[1]]:
            return False
        if standing[2]:
            return True
        letters = tail_letters(tails, live, one[1], standing[0])
        return letters != tail_letters(other_tails, other_live, other[1], standing[1])

    return least_row((0, 0, False), steps, is_end)


def least_unlike(claim, one, other):
    """The least normal word that two words lead to unlike words, None if there is none."""
    back = claim.group.back
    # Both lead alike where one and what undoes other lead back; half of this on either side
    # makes the least machines.
    word = freed(back, one + turned_back(back, other))
    half = len(word) // 2
    front = along_shape(claim, word[:half])
    behind = along_shape(claim, turned_back(back, word[half:]))
    if front == behind:
        return None
    return least_apart(len(back), front, behind)


class Leads:
    """What was found of how words lead the normal words of a Steady, to be asked again and again."""

    def __init__(self, steady):
        self.steady = steady
        self.points = points_of(steady)
        self.loops = [] if self.points is not None else loops_of(steady.claim)
        # Whether all loops lead each word to itself; None as long as this was not asked.
        self.regular = None

    def apart(self, one, other):
        """The least normal word that two words lead to unlike words, None if there is none."""
        if self.points is not None:
            return first_point_unlike(self.points, one, other)
        return least_unlike(self.steady.claim, one, other)

    def is_regular(self):
        """Whether all loops lead each word to itself, so that the machines tell a group."""
        if self.regular is None:
            self.regular = all([self.apart(loop, ()) is None for loop in self.loops])
        return self.regular

    def unlike(self, one, other):
        """The same as apart, asked of () alone where loops are short and tell that this is enough."""
        back = self.steady.claim.group.back
        size = len(freed(back, one + turned_back(back, other)))
        if self.points is None and all([len(loop) < size for loop in self.loops]) and self.is_regular():
            tables = self.steady.tables
            return None if led_along(tables, (), one) == led_along(tables, (), other) else ()
        return self.apart(one, other)


def unlike_at(steady, one, other):
    """The least normal word that two words lead to unlike words, None if there is none."""
    want_steady(steady)
    want_letters(steady.claim.group.back, one)
    want_letters(steady.claim.group.back, other)
    return Leads(steady).unlike(one, other)
