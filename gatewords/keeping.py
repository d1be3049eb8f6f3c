"""Judged claims kept through changes of their groups."""

from gatewords.alongs import along
from gatewords.carrying import carried_road
from gatewords.changes import changed
from gatewords.claims import Claim
from gatewords.errors import BadNumber, BadRoad
from gatewords.groups import Group, end_of_road, is_step
from gatewords.judgeds import Judged, want_judged
from gatewords.leading import led_along
from gatewords.leastforms import least_form
from gatewords.letters import is_number_in, turned_back
from gatewords.loops import loops_of
from gatewords.machines import Machine
from gatewords.pairmakers import number_of
from gatewords.papers import known_roads, moved_road, turned_road
from gatewords.roadmakers import road_to_normal


def with_group(judged, group, paper):
    """The Judged of another group with the same machines."""
    return Judged(Claim(group, judged.claim.words, judged.claim.nears), paper)


def are_steps(group, paper):
    """Whether all steps of the roads of a paper are steps of a group."""
    return all([is_step(group, step) for road in paper for step in road])


def kept_by_put(judged, group):
    """The Judged with one more rule, the last one, None if it does not hold."""
    one, other = group.rules[-1]
    tables = judged.steady.tables
    if led_along(tables, (), one) != led_along(tables, (), other):
        return None
    return with_group(judged, group, judged.paper)


def renumbered(machine, letters, names):
    """The Machine of so many letters, by the same states, that reads names[x] where this reads x.

    None among the names stands for what is read no more.
    """
    ways = []
    for way in machine.ways:
        row = [None] * letters
        for number, to in enumerate(way):
            if to is not None and names[number] is not None:
                row[names[number]] = to
        ways.append(row)
    return Machine(letters, ways, machine.ends)


def pair_names(names):
    """The new numbers of pair rows where letters have new names, the last name standing for no letter."""
    last = names[-1]
    found = []
    for first in names:
        for second in names:
            if first is None or second is None:
                found.append(None)
            else:
                found.append(number_of(last, first, second))
    return found


def with_new_letters(judged, group, word):
    """The claim with two letters more, that lead as a word and what undoes it do."""
    many = len(judged.claim.group.back)
    names = list(range(many)) + [many + 2]
    numbers = pair_names(names)
    claim = judged.claim
    opposite = turned_back(claim.group.back, word)
    nears = list(claim.nears) + [along(judged.steady, word), along(judged.steady, opposite)]
    words = renumbered(claim.words, many + 2, list(range(many)))
    return Claim(group, words, [renumbered(near, (many + 3) ** 2, numbers) for near in nears])


def meaning_steps(many, word, opposite, loop):
    """The steps that replace the new letters of a loop by what they mean, and the word behind them."""
    road = []
    found = ()
    for letter in loop:
        at = len(found)
        if letter == many:
            road.append((at, (many,), word))
            found = found + word
        elif letter == many + 1:
            # The opposite letter goes with the new one, which comes of the word put in behind it.
            road.extend(opposite_steps(many, word, opposite, at))
            found = found + opposite
        else:
            found = found + (letter,)
    return road, found


def opposite_steps(many, word, opposite, place):
    """The steps that replace the second new letter by what undoes the meaning of the first one."""
    road = []
    for at, letter in enumerate(word):
        road.append((place + 1 + at, (), (letter, opposite[len(word) - 1 - at])))
    road.append((place + 1, word, (many,)))
    road.append((place, (many + 1, many), ()))
    return road


def kept_by_letter(judged, group, word):
    """The Judged with two letters more."""
    back = judged.claim.group.back
    claim = with_new_letters(judged, group, word)
    paper = []
    for loop in loops_of(claim):
        road, here = meaning_steps(len(back), word, turned_back(back, word), loop)
        paper.append(road + road_to_normal(judged, here)[0])
    return Judged(claim, paper)


def reads_some(machine, numbers):
    """Whether a row that a machine in least form takes has one of these numbers."""
    return any([way[number] is not None for way in machine.ways for number in numbers])


def without_last_letters(judged, group):
    """The claim without the last two letters, which stand in no normal word."""
    claim = judged.claim
    many = len(group.back)
    names = list(range(many)) + [None, None]
    numbers = pair_names(names + [many])
    words = renumbered(claim.words, many, names)
    nears = [renumbered(near, (many + 1) ** 2, numbers) for near in claim.nears[:-2]]
    return Claim(group, words, nears)


def kept_by_unletter(judged, group, change):
    """The Judged without the last two letters, None if one of them is in some normal word."""
    many = len(group.back)
    if reads_some(least_form(judged.claim.words), (many, many + 1)):
        return None
    claim = without_last_letters(judged, group)
    # Its loops are loops of the nears that are left, so each has its road already.
    known = known_roads(judged.steady, judged.paper)
    paper = []
    for loop in loops_of(claim):
        paper.append(carried_road(judged.claim.group, change, loop, known[loop]))
    return Judged(claim, paper)


def kept_told(judged, change):
    """The Judged behind a change, or None."""
    group = changed(judged.claim.group, change)
    kind = change[0]
    if kind == "put":
        return kept_by_put(judged, group)
    if kind == "letter":
        return kept_by_letter(judged, group, change[1])
    if kind == "unletter":
        return kept_by_unletter(judged, group, change)
    return with_group(judged, group, judged.paper) if are_steps(group, judged.paper) else None


def kept(judged, change):
    """The Judged of the changed group, None if the claim is not kept."""
    want_judged(judged)
    return kept_told(judged, change)


def step_without(group, rule, road, step):
    """The steps of a group without a rule that do what a step does, road leading as the rule does."""
    place, out, put = step
    if is_step(group, step):
        return [step]
    if (out, put) == rule:
        return moved_road(road, place)
    return moved_road(turned_road(road), place)


def swapped(judged, place, road):
    """The Judged of the group without a rule, steps by it being replaced by a road."""
    rules = judged.claim.group.rules
    group = Group(judged.claim.group.back, rules[:place] + rules[place + 1:])
    paper = []
    for steps in judged.paper:
        replaced = []
        for step in steps:
            replaced.extend(step_without(group, rules[place], road, step))
        paper.append(replaced)
    return with_group(judged, group, paper)


def lets_swap(group, place, road):
    """Whether any value is a road of the group without a rule from its first side to the second one."""
    one, other = group.rules[place]
    fewer = Group(group.back, group.rules[:place] + group.rules[place + 1:])
    return end_of_road(fewer, one, road) == other


def kept_by(judged, place, road):
    """The Judged of the group without a rule, of which a road without it shows that it follows."""
    want_judged(judged)
    group = judged.claim.group
    if not is_number_in(place, 0, len(group.rules) - 1):
        raise BadNumber("place")
    if not lets_swap(group, place, road):
        raise BadRoad("not a road from the one side of the rule to the other one without it")
    return swapped(judged, place, road)
