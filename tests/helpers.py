"""What several tests use: plain ways of asking machines, and machines by chance."""

import itertools
import random

from gatewords import errors
from gatewords.machines import Machine, takes


def rows(letters, most):
    """All rows of at most most numbers, in their order."""
    return [row for size in range(most + 1) for row in itertools.product(range(letters), repeat=size)]


def language(machine, most):
    """The list of the rows of at most most numbers that a machine takes."""
    return [row for row in rows(machine.letters, most) if takes(machine, row)]


def paired(back, near, most):
    """All pairs of words of at most most letters that a near pairs."""
    many = len(back)
    found = set()
    waiting = [(0, (), ())]
    while waiting:
        state, one, other = waiting.pop()
        if state in near.ends:
            found.add((one, other))
        size = max(len(one), len(other))
        if size == most:
            continue
        for first in range(many + 1):
            for second in range(many + 1):
                new = (one + (first,) * (first < many), other + (second,) * (second < many))
                to = near.ways[state][first * (many + 1) + second]
                if to is not None and max(map(len, new)) == size + 1 \
                        and (first == many or len(one) == size) and (second == many or len(other) == size):
                    waiting.append((to, *new))
    return found


def chance_machine(seed, letters, states, gaps=0.3, ends=0.4):
    """A machine by chance, always the same for the same numbers."""
    chance = random.Random(seed)
    ways = [[None if chance.random() < gaps else chance.randrange(states) for _ in range(letters)]
            for _ in range(states)]
    return Machine(letters, ways, [k for k in range(states) if chance.random() < ends])


def chance_near(seed, back, states, gaps=0.5, ends=0.4):
    """A machine by chance that reads rows of pairs, and other rows too."""
    return chance_machine(seed, (len(back) + 1) ** 2, states, gaps, ends)


def chain(length, letters=1):
    """The machine of length + 1 states that takes just the row of so many 0."""
    ways = [[k + 1] + [None] * (letters - 1) for k in range(length)] + [[None] * letters]
    return Machine(letters, ways, [length])


def ring(length, ends=(0,)):
    """The machine of one letter that goes round over so many states."""
    return Machine(1, [[(k + 1) % length] for k in range(length)], list(ends))


def refused(case, error, function, *given, **more):
    """Whether a call raises just this error; the one wanted is given as an object."""
    with case.assertRaises(type(error)) as caught:
        function(*given, **more)
    case.assertIs(type(caught.exception), type(error))
    case.assertEqual(vars(caught.exception), vars(error))


ODD_VALUES = [None, True, False, 0, 1, -1, 2.0, "", "a", b"a", (), [], {}, set(), (0,), [0], (True,),
              (0, 1), (1, 0), ((),), [()], ((0, 0), ()), object(), int, len, {0: 0}, (None,), ("a",),
              float("nan"), (1.0, 0.0), 10 ** 30, errors, ((0,), 0), ({},), ([],)]
