"""Machines that take what one of two machines takes, both take, or one alone takes."""

from gatewords.machines import want_as_many, want_machine
from gatewords.shapes import least_shape, made, shape_of
from gatewords.standings import spread

# Far more standings than the 20000 behind which the document leaves it open.
MOST_JOINED = 25000


def either(one, other):
    """Whether at least one of two is true."""
    return one or other


def both(one, other):
    """Whether both are true."""
    return one and other


def joined(letters, shape, other_shape, lets):
    """The Machine that takes what lets says of whether each of two shapes takes it."""
    # The states behind the last ones stand for nowhere.
    ways = shape[0] + [{}]
    ends = shape[1] + [False]
    other_ways = other_shape[0] + [{}]
    other_ends = other_shape[1] + [False]
    last = len(ways) - 1
    other_last = len(other_ways) - 1

    def steps(standing):
        way = ways[standing[0]]
        other_way = other_ways[standing[1]]
        found = []
        for number in range(letters):
            if lets(number in way, number in other_way):
                found.append((number, (way.get(number, last), other_way.get(number, other_last))))
        return found

    standings, made_ways = spread((0, 0), steps, MOST_JOINED)
    taken = [lets(ends[state], other_ends[other]) for state, other in standings]
    return made(letters, (made_ways, taken))


def contrary(letters, shape):
    """The shape that takes the rows of numbers below letters that a shape does not take."""
    ways, ends = shape
    last = len(ways)
    full = []
    for way in ways + [{}]:
        full.append({number: way.get(number, last) for number in range(letters)})
    return full, [not end for end in ends] + [True]


def in_either(one, other):
    """The machine that takes what at least one of both takes."""
    want_as_many(one, other)
    return joined(one.letters, least_shape(shape_of(one)), least_shape(shape_of(other)), either)


def in_both(one, other):
    """The machine that takes what both take."""
    want_as_many(one, other)
    return joined(one.letters, least_shape(shape_of(one)), least_shape(shape_of(other)), both)


def in_one(one, other):
    """The machine that takes what one takes and other does not."""
    want_as_many(one, other)
    rest = contrary(one.letters, least_shape(shape_of(other)))
    return joined(one.letters, least_shape(shape_of(one)), rest, both)


def in_none(machine):
    """The machine that takes the rows that a machine does not take."""
    want_machine(machine)
    return made(machine.letters, contrary(machine.letters, shape_of(machine)))
