"""Roads from words to their normal words, made of the roads of a paper."""

from gatewords.judgeds import want_judged
from gatewords.leading import led_along
from gatewords.letters import turned_back, want_word
from gatewords.loops import gaps_of, letters_of
from gatewords.pairs import row_of_pair
from gatewords.papers import known_roads, moved_road, road_from_nothing, road_of_loop, turned_road


def road_over(back, known, one, other):
    """The road from one word to another one, what undoes other being a loop with one ahead."""
    if one == other:
        return []
    # What undoes other, and other, are put in behind one; one goes with what undoes other.
    opposite = turned_back(back, other)
    put_in = road_from_nothing(back, opposite, len(one))
    return put_in + road_of_loop(back, known, one + opposite)


def gaps_met(near, known, row):
    """The gaps of the states that a row meets in a near, from state 0 on."""
    state = 0
    found = [known[0]]
    for number in row:
        state = near.ways[state][number]
        found.append(known[state])
    return found


def words_over(many, one, letter, other, met):
    """The words, each with how far it stands in, that lead one and a letter to other, two by two.

    The letter is the last gap; then each gap comes ahead of the letters beside it.
    """
    swaps = [(len(one), (letter,), met[-1])]
    numbers = row_of_pair(many, one, other)
    for at in reversed(range(len(numbers))):
        first, second = letters_of(many, numbers[at])
        swaps.append((min(at, len(one)), first + met[at + 1], met[at] + second))
    return swaps


def road_of_letter(judged, maker, one, letter):
    """The road from a normal word with a letter behind it to the normal word to which this leads.

    maker has the back, the roads of the loops, the gaps of the letters and the steps known so far.
    """
    back, known, gaps_told, roads = maker
    near = judged.claim.nears[letter + 1]
    other = led_along(judged.steady.tables, one, (letter,))
    if other == one + (letter,):
        return [], other
    if one == other + (back[letter],):
        return [(len(other), (back[letter], letter), ())], other
    met = gaps_met(near, gaps_told[letter], row_of_pair(len(back), one, other))
    road = []
    for place, out, put in words_over(len(back), one, letter, other, met):
        if (out, put) not in roads:
            roads[(out, put)] = road_over(back, known, out, put)
        road.extend(moved_road(roads[(out, put)], place))
    return road, other


def maker_of(judged):
    """What roads are made of: the back, the roads of the loops, the gaps, and a dict for roads."""
    claim = judged.claim
    back = claim.group.back
    known = known_roads(judged.steady, judged.paper)
    return (back, known, [gaps_of(back, near) for near in claim.nears[1:]], {})


def road_to_normal(judged, word):
    """A road from a tuple of letters to its normal word, and this word."""
    maker = maker_of(judged)
    here = ()
    road = []
    for letter in word:
        steps, here = road_of_letter(judged, maker, here, letter)
        road.extend(steps)
    return road, here


def road_home(judged, word):
    """A road from a word to its normal word."""
    want_judged(judged)
    want_word(judged.claim.group.back, word)
    return road_to_normal(judged, word)[0]


def road_joining(judged, one, other):
    """A road from one tuple of letters to another one, None if they are not alike."""
    road, end = road_to_normal(judged, one)
    other_road, other_end = road_to_normal(judged, other)
    return road + turned_road(other_road) if end == other_end else None


def road_between(judged, one, other):
    """A road from one word to another one, None if they are not alike."""
    want_judged(judged)
    want_word(judged.claim.group.back, one)
    want_word(judged.claim.group.back, other)
    return road_joining(judged, one, other)
