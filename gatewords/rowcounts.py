"""How many rows a machine takes, and the one fraction that tells it for all lengths."""

from gatewords.errors import BadFraction, BadNumber, TooMany
from gatewords.letters import is_number, is_number_in
from gatewords.machines import want_machine
from gatewords.shapes import least_shape, shape_of, trimmed

MOST_LENGTH = 1000
MOST_FRACTION_STATES = 200
# Numbers modulo these primes, 2 to the power less 1, tell all that a fraction has.
PRIME_POWERS = (2203, 2281, 3217, 4253)


def times_led(ways):
    """For each state the list of pairs of a state and how many numbers lead to it."""
    told = []
    for way in ways:
        times = {}
        for to in way.values():
            times[to] = times.get(to, 0) + 1
        told.append(list(times.items()))
    return told


def counts_up_to(shape, most):
    """How many rows of each length, from 0 to most, a trimmed shape takes."""
    ways, ends = shape
    led = times_led(ways)
    found = []
    rows = {0: 1}
    for _ in range(most + 1):
        found.append(sum([rows[state] for state in rows if ends[state]]))
        longer = {}
        for state, many in rows.items():
            for to, times in led[state]:
                longer[to] = longer.get(to, 0) + many * times
        rows = longer
    return found


def want_length(length):
    """BadNumber("length") unless from 0 to 1000."""
    if not is_number_in(length, 0, MOST_LENGTH):
        raise BadNumber("length")


def count_rows(machine, length):
    """How many rows of just this length a machine takes."""
    want_machine(machine)
    want_length(length)
    return counts_up_to(trimmed(shape_of(machine)), length)[length]


def count_up_to(machine, length):
    """How many rows of at most this length a machine takes."""
    want_machine(machine)
    want_length(length)
    return sum(counts_up_to(trimmed(shape_of(machine)), length))


def without_last_zeros(numbers):
    """The tuple of numbers without zeros at its end."""
    size = len(numbers)
    while size and numbers[size - 1] == 0:
        size -= 1
    return tuple(numbers[:size])


def product_at(under, counts, place):
    """The number at a place of the product of a row of numbers and a series."""
    return sum([under[k] * counts[place - k] for k in range(min(len(under), place + 1))])


def mended(now, gap, before, before_gap, shift, prime):
    """Now times the gap before, less before times the gap now, so many places further."""
    size = max(len(now), len(before) + shift)
    longer = now + [0] * (size - len(now))
    moved = [0] * shift + before + [0] * (size - len(before) - shift)
    return [(before_gap * a - gap * b) % prime for a, b in zip(longer, moved)]


def least_recurrence(counts, prime):
    """The least length of a recurrence of numbers modulo a prime, and its row of numbers.

    This is the way of Berlekamp and Massey, without dividing: the row is told
    but for a factor.
    """
    now, before = [1], [1]
    length, shift, before_gap = 0, 1, 1
    for place in range(len(counts)):
        gap = product_at(now, counts, place) % prime
        if gap == 0:
            shift += 1
            continue
        better = mended(now, gap, before, before_gap, shift, prime)
        if 2 * length <= place:
            before, before_gap, shift = now, gap, 1
            length = place + 1 - length
        else:
            shift += 1
        now = better
    return length, now


def inverse(number, prime):
    """What makes 1 with a number modulo a prime."""
    left, right = number, prime
    times, other_times = 1, 0
    while right:
        whole = left // right
        left, right = right, left - whole * right
        times, other_times = other_times, times - whole * other_times
    return times


def whole_numbers(row, prime):
    """The row, divided by its first number, with the numbers nearest to 0 of their kind."""
    factor = inverse(row[0], prime)
    found = []
    for number in row:
        rest = (number * factor) % prime
        found.append(rest - prime if 2 * rest > prime else rest)
    return found


def fraction_of(counts, prime):
    """The fraction whose series has these counts, as one prime tells it, or None."""
    length, row = least_recurrence(counts, prime)
    under = whole_numbers(row, prime)
    numbers = [product_at(under, counts, place) for place in range(len(counts))]
    if any(numbers[length:]):
        return None
    return without_last_zeros(numbers[:length]), without_last_zeros(under)


def row_fraction(machine):
    """The pair of rows of numbers whose quotient is the series of the counts of a machine.

    A machine of m states has a recurrence of at most m numbers, so twice as
    many counts tell it. All its numbers are less than half of each of the
    primes: an under divides a determinant of at most 200 lines, by which no
    number grows beyond the power 200 of 170.
    """
    want_machine(machine)
    shape = least_shape(shape_of(machine))
    states = len(shape[0])
    if states > MOST_FRACTION_STATES:
        raise TooMany(MOST_FRACTION_STATES)
    counts = counts_up_to(shape, 2 * states + 2)
    fractions = [None]
    for power in PRIME_POWERS:
        if fractions[-1] is None:
            fractions.append(fraction_of(counts, (1 << power) - 1))
    return fractions[-1]


def is_numbers(thing):
    """Whether any value is a tuple of numbers."""
    return isinstance(thing, tuple) and all([is_number(number) for number in thing])


def fraction_counts(over, under, most):
    """The first numbers, most and one of them, of the series of a fraction."""
    if not is_numbers(over) or not is_numbers(under) or not under or under[0] != 1:
        raise BadFraction("not two tuples of numbers, the second one beginning with 1")
    if not is_number_in(most, 0, MOST_LENGTH):
        raise BadNumber("most")
    found = []
    for place in range(most + 1):
        first = over[place] if place < len(over) else 0
        size = min(len(under), place + 1)
        found.append(first - sum([under[k] * found[place - k] for k in range(1, size)]))
    return found
