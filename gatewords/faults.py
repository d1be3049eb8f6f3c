"""Faults, by which a claim shows that its machines do not lead normal words."""

from gatewords.begun import beginnings
from gatewords.claims import want_claim
from gatewords.composing import first_split
from gatewords.leastrows import least_row
from gatewords.letters import is_number_in, is_row, rank
from gatewords.machines import state_behind
from gatewords.pairmakers import put_pairs, same_pairs, turned_pairs, word_steps
from gatewords.pairs import is_row_of_pair, pair_of_row, row_of_pair
from gatewords.partners import partners
from gatewords.projections import firsts_of
from gatewords.rowasking import first_apart, first_beyond, live_ways_told
from gatewords.shapes import live_states, shape_of


def takes_row(machine, row):
    """Whether a machine takes a row of what it reads."""
    return state_behind(machine.ways, 0, row) in machine.ends


def is_normal(claim, word):
    """Whether any value is a normal word."""
    return is_row(len(claim.group.back), word) and takes_row(claim.words, word)


def pairs_words(claim, near, one, other):
    """Whether a near takes the pair row of two tuples of letters."""
    return takes_row(near, row_of_pair(len(claim.group.back), one, other))


def is_normal_pair(claim, row):
    """Whether a row of pair numbers is the pair row of two normal words."""
    many = len(claim.group.back)
    if not is_row_of_pair(many, row):
        return False
    return all([takes_row(claim.words, word) for word in pair_of_row(many, row)])


def is_same_pair(claim, row):
    """Whether a row of pair numbers is the pair row of two equal normal words."""
    one, other = pair_of_row(len(claim.group.back), row)
    return one == other and is_normal_pair(claim, row)


def are_letters(claim, thing):
    """Whether any values are a letter first and then tuples of letters."""
    many = len(claim.group.back)
    return is_number_in(thing[0], 0, many - 1) and all([is_row(many, word) for word in thing[1:]])


def is_begun_fault(claim, parts):
    """Whether a word is not normal and begins a normal one."""
    ways, ends = shape_of(claim.words)
    if not is_row(len(claim.group.back), parts[0]) or is_normal(claim, parts[0]):
        return False
    state = state_behind(claim.words.ways, 0, parts[0])
    return state is not None and live_states(ways, ends)[state]


def is_equal_fault(claim, parts):
    """Whether the first near is wrong about a row."""
    near = claim.nears[0]
    return is_row(near.letters, parts[0]) and takes_row(near, parts[0]) != is_same_pair(claim, parts[0])


def is_pairs_fault(claim, parts):
    """Whether a near takes a row that is no pair row of normal words."""
    near = claim.nears[0]
    if not are_letters(claim, parts[:1]) or not is_row(near.letters, parts[1]):
        return False
    return takes_row(claim.nears[parts[0] + 1], parts[1]) and not is_normal_pair(claim, parts[1])


def is_two_fault(claim, parts):
    """Whether a near pairs a word with two, the lesser one told first."""
    if not are_letters(claim, parts) or rank(parts[2]) >= rank(parts[3]):
        return False
    near = claim.nears[parts[0] + 1]
    return all([pairs_words(claim, near, parts[1], word) for word in parts[2:]])


def is_none_fault(claim, parts):
    """Whether a near pairs a normal word with none."""
    if not are_letters(claim, parts) or not is_normal(claim, parts[1]):
        return False
    near = claim.nears[parts[0] + 1]
    return partners(len(claim.group.back), shape_of(near), parts[1], 1) == []


def is_turned_fault(claim, parts):
    """Whether a near pairs two words that the near of what undoes its letter does not."""
    if not are_letters(claim, parts):
        return False
    letter, one, other = parts
    undoing = claim.nears[claim.group.back[letter] + 1]
    return pairs_words(claim, claim.nears[letter + 1], one, other) and not pairs_words(claim, undoing, other, one)


def is_step_fault(claim, parts):
    """Whether a near does not pair a normal word with itself and the letter, a normal word too."""
    if not are_letters(claim, parts):
        return False
    letter, word = parts
    longer = word + (letter,)
    if not is_normal(claim, word) or not is_normal(claim, longer):
        return False
    return not pairs_words(claim, claim.nears[letter + 1], word, longer)


# For each kind how many things a fault of it tells.
SIZES = {"empty": 0, "begun": 1, "equal": 1, "pairs": 2, "two": 4, "none": 2, "turned": 3, "step": 2}


def is_fault_of(claim, kind, parts):
    """Whether a claim has the fault of this kind that any values, as many as it has, tell."""
    if kind == "empty":
        return not is_normal(claim, ())
    if kind == "begun":
        return is_begun_fault(claim, parts)
    if kind == "equal":
        return is_equal_fault(claim, parts)
    if kind == "pairs":
        return is_pairs_fault(claim, parts)
    if kind == "two":
        return is_two_fault(claim, parts)
    if kind == "none":
        return is_none_fault(claim, parts)
    if kind == "turned":
        return is_turned_fault(claim, parts)
    return is_step_fault(claim, parts)


def is_fault(claim, thing):
    """Whether any value is a fault of a claim."""
    want_claim(claim)
    if not isinstance(thing, tuple) or not thing or not isinstance(thing[0], str):
        return False
    if thing[0] not in SIZES or len(thing) != SIZES[thing[0]] + 1:
        return False
    return is_fault_of(claim, thing[0], thing[1:])


def least_no_pair(claim, near):
    """The least row that a near takes and that is no pair row of normal words, or None.

    A standing has the state of the near and those of both words, None for an
    ended word; it has the state of the near alone where the row is none already.
    """
    many = len(claim.group.back)
    words = shape_of(claim.words)
    ends = words[1]
    ways = live_ways_told(near)

    def behind(standing, number):
        if len(standing) == 1 or number == (many + 1) ** 2 - 1:
            return ()
        first, second = divmod(number, many + 1)
        one = word_steps(many, words, standing[1], first)
        other = word_steps(many, words, standing[2], second)
        return (one[0], other[0]) if one and other else ()

    def steps(standing):
        return [(number, (to,) + behind(standing, number)) for number, to in ways[standing[0]]]

    def is_end(standing):
        if standing[0] not in near.ends:
            return False
        return len(standing) == 1 or not all([state is None or ends[state] for state in standing[1:]])

    return least_row((0, 0, 0), steps, is_end)


def pairs_fault(claim, letter):
    """The least fault of the kind "pairs" of a letter, or None."""
    row = least_no_pair(claim, claim.nears[letter + 1])
    return None if row is None else ("pairs", letter, row)


def two_fault(claim, letter):
    """The least fault of the kind "two" of a letter, or None."""
    found = first_split(claim.group.back, claim.nears[letter + 1])
    return None if found is None else ("two", letter) + found


def none_fault(claim, letter):
    """The least fault of the kind "none" of a letter, or None."""
    word = first_beyond(claim.words, firsts_of(claim.group.back, claim.nears[letter + 1]))
    return None if word is None else ("none", letter, word)


def turned_fault(claim, letter):
    """The least fault of the kind "turned" of a letter, or None."""
    back = claim.group.back
    row = first_beyond(turned_pairs(back, claim.nears[letter + 1]), claim.nears[back[letter] + 1])
    if row is None:
        return None
    other, one = pair_of_row(len(back), row)
    return ("turned", letter, one, other)


def step_fault(claim, letter):
    """The least fault of the kind "step" of a letter, or None."""
    back = claim.group.back
    row = first_beyond(put_pairs(back, claim.words, letter), claim.nears[letter + 1])
    return None if row is None else ("step", letter, pair_of_row(len(back), row)[0])


def letter_fault(claim, kind, letter):
    """The least fault of this kind of a letter, or None."""
    if kind == "pairs":
        return pairs_fault(claim, letter)
    if kind == "two":
        return two_fault(claim, letter)
    if kind == "none":
        return none_fault(claim, letter)
    if kind == "turned":
        return turned_fault(claim, letter)
    return step_fault(claim, letter)


def words_fault(claim):
    """The first fault of the words of a claim, or of its first near, or None."""
    if not is_normal(claim, ()):
        return ("empty",)
    word = first_beyond(beginnings(claim.words), claim.words)
    if word is not None:
        return ("begun", word)
    row = first_apart(claim.nears[0], same_pairs(claim.group.back, claim.words))
    return None if row is None else ("equal", row)


def fault(claim):
    """The first fault of a claim, None if it has none."""
    want_claim(claim)
    found = words_fault(claim)
    if found is not None:
        return found
    for kind in ("pairs", "two", "none", "turned", "step"):
        for letter in range(len(claim.group.back)):
            found = letter_fault(claim, kind, letter)
            if found is not None:
                return found
    return None
