"""The commutative part of a group, by diagonal forms of whole numbers."""

from math import gcd, lcm

from gatewords.groups import want_group
from gatewords.letters import want_letters


def count_letters(many, word):
    """How often each of so many letters stands in a word."""
    return [word.count(letter) for letter in range(many)]


def less(one, other):
    """One line of numbers less another one."""
    return [a - b for a, b in zip(one, other)]


def relation_lines(group):
    """The lines of numbers that come to nothing in the commutative part."""
    many = len(group.back)
    lines = [count_letters(many, (letter, back)) for letter, back in enumerate(group.back)]
    for one, other in group.rules:
        lines.append(less(count_letters(many, one), count_letters(many, other)))
    return lines


def least_place(lines, start):
    """The place of the number nearest to 0, but not 0, from row and column start on."""
    found = None
    for row in range(start, len(lines)):
        for column in range(start, len(lines[row])):
            size = abs(lines[row][column])
            if size and (found is None or size < found[0]):
                found = (size, row, column)
    return found


def exchange_columns(lines, one, other):
    """Exchange two columns of lines."""
    for line in lines:
        line[one], line[other] = line[other], line[one]


def clear_rows(lines, start):
    """Take the row start from those behind it as often as goes; whether nothing is left."""
    head = lines[start]
    clean = True
    for row in range(start + 1, len(lines)):
        times = lines[row][start] // head[start]
        lines[row] = [a - times * b for a, b in zip(lines[row], head)]
        clean = clean and lines[row][start] == 0
    return clean


def clear_columns(lines, turns, start):
    """Do with columns, in turns too, what clear_rows does with rows."""
    head = lines[start][start]
    clean = True
    for column in range(start + 1, len(lines[start])):
        times = lines[start][column] // head
        if times:
            for line in lines[start:] + turns:
                line[column] -= times * line[start]
        clean = clean and lines[start][column] == 0
    return clean


def undivided_row(lines, start):
    """The first row behind start with a number that the one at start does not divide."""
    head = lines[start][start]
    for row in range(start + 1, len(lines)):
        if not all([number % head == 0 for number in lines[row]]):
            return row
    return None


def clear_corner(lines, turns, start):
    """Make the number at start divide all behind it, and the rest of its lines 0."""
    while True:
        _, row, column = least_place(lines, start)
        lines[start], lines[row] = lines[row], lines[start]
        exchange_columns(lines, start, column)
        exchange_columns(turns, start, column)
        if not clear_rows(lines, start) or not clear_columns(lines, turns, start):
            continue
        row = undivided_row(lines, start)
        if row is None:
            return
        lines[start] = [a + b for a, b in zip(lines[start], lines[row])]


def diagonal(lines, many):
    """The diagonal form of lines of so many numbers, and the turns of their columns.

    The sums of the lines are just those x for which x times turns has multiples
    of the numbers of the form, 0 being a multiple of 0 alone.
    """
    lines = [list(line) for line in lines]
    turns = [[int(row == column) for column in range(many)] for row in range(many)]
    form = []
    for start in range(many):
        if start >= len(lines) or least_place(lines, start) is None:
            form.append(0)
            continue
        clear_corner(lines, turns, start)
        form.append(abs(lines[start][start]))
    return form, turns


def turned(line, turns):
    """A line of numbers times the turns."""
    return [sum([a * row[column] for a, row in zip(line, turns)]) for column in range(len(turns))]


def parts_of_form(form):
    """The numbers of a diagonal form from 2 on, and how many are 0."""
    return [number for number in form if number > 1], form.count(0)


def abelian_part(group):
    """The divisors of the commutative part, and how many free numbers it has."""
    want_group(group)
    form, _ = diagonal(relation_lines(group), len(group.back))
    return parts_of_form(form)


def is_alike_abelian(group, one, other):
    """Whether two words are alike in the commutative part."""
    want_group(group)
    want_letters(group.back, one)
    want_letters(group.back, other)
    many = len(group.back)
    form, turns = diagonal(relation_lines(group), many)
    line = turned(less(count_letters(many, one), count_letters(many, other)), turns)
    return all([a % number == 0 if number else a == 0 for a, number in zip(line, form)])


def abelian_order(group, word):
    """How many times a word makes () in the commutative part, None if it never does."""
    want_group(group)
    want_letters(group.back, word)
    many = len(group.back)
    form, turns = diagonal(relation_lines(group), many)
    order = 1
    for a, number in zip(turned(count_letters(many, word), turns), form):
        if number:
            order = lcm(order, number // gcd(a, number))
        elif a:
            return None
    return order
