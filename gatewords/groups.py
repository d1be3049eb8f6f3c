"""Groups told by letters and rules, and roads of single steps between words."""

from gatewords.errors import BadGroup, BadNumber, BadRoad, BadStep, BadWord, TooMany
from gatewords.letters import is_back, is_list, is_number, is_number_in, is_pair, is_row
from gatewords.letters import is_short_row, rank, want_letters, want_word

MOST_RULES = 40
MOST_SIDE = 40
MOST_NEAR = 3000


def is_rule(many, thing):
    """Whether any value is a pair of words of at most 40 of so many letters."""
    return is_pair(thing) and all([is_short_row(many, side, MOST_SIDE) for side in thing])


def are_rules(many, thing):
    """Whether any value is a list of at most 40 rules of so many letters."""
    return is_list(thing) and len(thing) <= MOST_RULES and all([is_rule(many, rule) for rule in thing])


class Group:
    """The group of these letters, which undo one another, and of these rules."""

    def __init__(self, back, rules):
        if not is_back(back):
            raise BadGroup("back")
        if not are_rules(len(back), rules):
            raise BadGroup("rules")
        self.back = back
        self.rules = tuple(rules)

    def __eq__(self, other):
        return isinstance(other, Group) and self.back == other.back and self.rules == other.rules


def want_group(group):
    """BadGroup(None) unless a Group."""
    if not isinstance(group, Group):
        raise BadGroup(None)


def undoes(group, one, other):
    """Whether one is a pair of letters that undo one another, and other has none."""
    return other == () and len(one) == 2 and group.back[one[0]] == one[1]


def exchanges(group, out, put):
    """Whether a step may take these letters out and put those in."""
    if (out, put) in group.rules or (put, out) in group.rules:
        return True
    return undoes(group, out, put) or undoes(group, put, out)


def is_step(group, thing):
    """Whether any value is a step of the group."""
    if not isinstance(thing, tuple) or len(thing) != 3:
        return False
    place, out, put = thing
    many = len(group.back)
    # The sides are judged first: compared by == alone, True would count as 1.
    if not is_row(many, out) or not is_row(many, put):
        return False
    return is_number(place) and place >= 0 and exchanges(group, out, put)


def can_be_done(word, step):
    """Whether a word has the letters that a step takes out, at its place."""
    place, out, _ = step
    return place + len(out) <= len(word) and word[place:place + len(out)] == out


def done(word, step):
    """The word behind a step that can be done."""
    place, out, put = step
    return word[:place] + put + word[place + len(out):]


def step_done(group, word, step):
    """The word behind a step."""
    want_group(group)
    want_letters(group.back, word)
    if not is_step(group, step) or not can_be_done(word, step):
        raise BadStep("not a step of the group that can be done there")
    return done(word, step)


def end_of_road(group, one, thing):
    """The word to which any value leads as a road from one, None if it does not."""
    if not is_list(thing):
        return None
    word = one
    for step in thing:
        if not is_step(group, step) or not can_be_done(word, step):
            return None
        word = done(word, step)
    return word


def is_road(group, one, other, thing):
    """Whether any value is a road from one to other."""
    want_group(group)
    want_letters(group.back, one)
    want_letters(group.back, other)
    return end_of_road(group, one, thing) == other


def road_back(group, one, road):
    """The road from the end of a road to its beginning, step by step back."""
    want_group(group)
    want_letters(group.back, one)
    if end_of_road(group, one, road) is None:
        raise BadRoad("not a road of the group from there")
    return [(place, put, out) for place, out, put in road[::-1]]


def all_exchanges(group):
    """Each pair of what a step of the group may take out and put in."""
    both = []
    for one, other in group.rules:
        both.append((one, other))
        both.append((other, one))
    for letter, back in enumerate(group.back):
        both.append(((letter, back), ()))
        both.append(((), (letter, back)))
    return both


def words_one_step_on(swaps, word, most):
    """The words of at most most letters to which one of the exchanges leads a word."""
    found = []
    for out, put in swaps:
        size = len(out)
        if len(word) - size + len(put) > most:
            continue
        for place in range(len(word) - size + 1):
            if word[place:place + size] == out:
                found.append(word[:place] + put + word[place + size:])
    return found


def near_words(group, word, most):
    """All words to which steps lead over words of at most most letters."""
    want_group(group)
    want_word(group.back, word)
    if not is_number_in(most, 0, 8):
        raise BadNumber("most")
    if len(word) > most:
        raise BadWord("the word has more letters than are let")
    swaps = all_exchanges(group)
    known = {word: True}
    waiting = [word]
    while waiting:
        for near in words_one_step_on(swaps, waiting.pop(), most):
            if near not in known:
                known[near] = True
                waiting.append(near)
        if len(known) > MOST_NEAR:
            raise TooMany(MOST_NEAR)
    return sorted(known, key=rank)
