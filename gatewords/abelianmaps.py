"""Tuples of numbers for the letters that tell the commutative part of a group."""

from gatewords.abelian import diagonal, parts_of_form, relation_lines
from gatewords.errors import BadMap
from gatewords.groups import want_group
from gatewords.letters import is_list, is_number, is_number_in, want_letters


def part_and_turns(group):
    """The divisors and the free numbers of a group, its diagonal form and its turns."""
    form, turns = diagonal(relation_lines(group), len(group.back))
    divisors, free = parts_of_form(form)
    return divisors, free, form, turns


def is_place(divisors, free, thing):
    """Whether any value is a tuple with a number for each divisor and each free one."""
    if not isinstance(thing, tuple) or len(thing) != len(divisors) + free:
        return False
    if not all([is_number(number) for number in thing]):
        return False
    return all([is_number_in(number, 0, most - 1) for number, most in zip(thing, divisors)])


def are_places(many, divisors, free, thing):
    """Whether any value is a list of such tuples, one for each letter."""
    if not is_list(thing) or len(thing) != many:
        return False
    return all([is_place(divisors, free, place) for place in thing])


def sum_of(divisors, places, line):
    """The sum of places, each as often as line tells, the first numbers by the divisors."""
    width = len(places[0])
    total = [sum([times * place[k] for times, place in zip(line, places)]) for k in range(width)]
    for k, divisor in enumerate(divisors):
        total[k] = int(total[k]) % divisor
    return tuple(total)


def is_kept(group, divisors, places):
    """Whether all that is alike has equal sums."""
    return not any([any(sum_of(divisors, places, line)) for line in relation_lines(group)])


def is_onto(divisors, places):
    """Whether each tuple of numbers is the sum of some word, letters being undone by letters."""
    width = len(places[0])
    lines = [list(place) for place in places]
    for k, divisor in enumerate(divisors):
        lines.append([divisor if column == k else 0 for column in range(width)])
    form, _ = diagonal(lines, width)
    return all([number == 1 for number in form])


def tells_part(group, thing):
    """Whether any value tells the commutative part of a group."""
    divisors, free, _, _ = part_and_turns(group)
    if not are_places(len(group.back), divisors, free, thing):
        return False
    # Nothing more is to be asked: what is kept and onto leads unlike words to unlike sums.
    return is_kept(group, divisors, thing) and is_onto(divisors, thing)


def is_abelian_map(group, thing):
    """Whether any value is a list of places that tells the commutative part."""
    want_group(group)
    return tells_part(group, thing)


def abelian_map(group):
    """A list of places for the letters that tells the commutative part."""
    want_group(group)
    divisors, _, form, turns = part_and_turns(group)
    columns = [k for k, number in enumerate(form) if number != 1]
    lines = [[row[k] for k in columns] for row in turns]
    return [sum_of(divisors, [tuple(line)], [1]) for line in lines]


def abelian_place(group, places, word):
    """The sum of the places of the letters of a word."""
    want_group(group)
    if not tells_part(group, places):
        raise BadMap("abelian")
    want_letters(group.back, word)
    divisors, _, _, _ = part_and_turns(group)
    return sum_of(divisors, places, [word.count(letter) for letter in range(len(group.back))])
