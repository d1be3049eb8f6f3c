"""Changes of rules and letters, and words carried along with them."""

from gatewords.errors import BadChange, NotLet
from gatewords.groups import MOST_RULES, MOST_SIDE, Group, want_group
from gatewords.letters import MOST_BACK, is_number_in, is_row, is_short_row, turned_back, want_letters


def is_change(thing):
    """Whether any value is a change."""
    if not isinstance(thing, tuple) or not thing or not isinstance(thing[0], str):
        return False
    kind = thing[0]
    if kind == "put":
        return len(thing) == 3 and all([is_short_row(MOST_BACK, side, MOST_SIDE) for side in thing[1:]])
    if kind == "letter":
        return len(thing) == 2 and is_short_row(MOST_BACK, thing[1], MOST_SIDE)
    if kind == "drop":
        return len(thing) == 2 and is_number_in(thing[1], 0, MOST_RULES - 1)
    return kind == "unletter" and len(thing) == 1


def with_rule(group, one, other):
    """The group with one more rule."""
    many = len(group.back)
    if not is_row(many, one) or not is_row(many, other):
        raise NotLet("word")
    if len(group.rules) == MOST_RULES:
        raise NotLet("many")
    return Group(group.back, group.rules + ((one, other),))


def without_rule(group, place):
    """The group without one of its rules."""
    if place >= len(group.rules):
        raise NotLet("place")
    return Group(group.back, group.rules[:place] + group.rules[place + 1:])


def with_letters(group, word):
    """The group with two more letters, of which the first one is alike with a word."""
    many = len(group.back)
    if many + 2 > MOST_BACK:
        raise NotLet("letters")
    if not is_row(many, word):
        raise NotLet("word")
    if len(group.rules) == MOST_RULES:
        raise NotLet("many")
    return Group(group.back + (many + 1, many), group.rules + (((many,), word),))


def place_of_meaning(group):
    """The place of the first rule that tells the last letters by the other ones."""
    first = len(group.back) - 2
    for place, (one, other) in enumerate(group.rules):
        if one == (first,) and is_row(first, other):
            return place
    raise NotLet("rule")


def replaced(back, meaning, word):
    """The word with meaning for the last letter but one, and what undoes it for the last."""
    first = len(back) - 2
    letters = []
    for letter in word:
        if letter < first:
            letters.append(letter)
        else:
            letters.extend(meaning if letter == first else turned_back(back, meaning))
    return tuple(letters)


def meaning_of_last(group):
    """The place of the rule that the last letters stand by, and what it says of them."""
    many = len(group.back)
    if many < 4 or group.back[many - 2] != many - 1:
        raise NotLet("letters")
    place = place_of_meaning(group)
    return place, group.rules[place][1]


def without_letters(group):
    """The group without its last two letters."""
    place, meaning = meaning_of_last(group)
    rules = []
    for one, other in group.rules[:place] + group.rules[place + 1:]:
        rules.append((replaced(group.back, meaning, one), replaced(group.back, meaning, other)))
    if any([len(side) > MOST_SIDE for rule in rules for side in rule]):
        raise NotLet("many")
    return Group(group.back[:-2], rules)


def changed(group, change):
    """The group behind a change."""
    want_group(group)
    if not is_change(change):
        raise BadChange("not a change")
    kind = change[0]
    if kind == "put":
        return with_rule(group, change[1], change[2])
    if kind == "drop":
        return without_rule(group, change[1])
    if kind == "letter":
        return with_letters(group, change[1])
    return without_letters(group)


def changed_word(group, change, word):
    """The word that tells behind a change what the word told ahead of it."""
    changed(group, change)
    want_letters(group.back, word)
    if change[0] != "unletter":
        return word
    _, meaning = meaning_of_last(group)
    return replaced(group.back, meaning, word)
