"""Logs of values, of which the whole records are told wherever they are cut off."""

from gatewords.errors import BadBytes, BadValue
from gatewords.letters import is_list
from gatewords.values import bytes_told, value_within, want_bytes

DIGIT = 256
SUMS_BASE = 65521
HEAD = 8
TAIL = 4


def digits_told(number, many):
    """So many digits of a number to the base 256, the greatest first."""
    digits = []
    for _ in range(many):
        digits.append(number % DIGIT)
        number = number // DIGIT
    return digits[::-1]


def sums_of(numbers):
    """The digits of the sum of numbers, and of the sum of each times its place."""
    plain = sum(numbers) % SUMS_BASE
    weighed = sum([(place + 1) * number for place, number in enumerate(numbers)]) % SUMS_BASE
    return digits_told(plain, 2) + digits_told(weighed, 2)


def record_told(value):
    """The bytes of the record of a value; BadValue unless one."""
    numbers = bytes_told(value)
    head = digits_told(len(numbers), 4)
    return head + [DIGIT - 1 - digit for digit in head] + numbers + sums_of(numbers)


def record(value):
    """The bytes of the record of a value."""
    return record_told(value)


def log_told(values):
    """The records of values, one behind the other."""
    numbers = []
    for value in values:
        numbers.extend(record_told(value))
    return numbers


def log_of(values):
    """The records of values, one behind the other."""
    if not is_list(values):
        raise BadValue("not a list of values")
    return log_told(values)


def end_of_record(numbers, at):
    """Where the record ends that begins at a place, told by its head, None if it does not end there."""
    head = list(numbers[at:at + 4])
    if len(numbers) < at + HEAD or list(numbers[at + 4:at + HEAD]) != [DIGIT - 1 - digit for digit in head]:
        return None
    size = 0
    for digit in head:
        size = size * DIGIT + digit
    end = at + HEAD + size + TAIL
    return end if end <= len(numbers) else None


def record_at(numbers, at):
    """The value of the record that begins at a place, and where it ends, None if none does."""
    end = end_of_record(numbers, at)
    if end is None:
        return None
    first = at + HEAD
    last = end - TAIL
    if list(numbers[last:end]) != sums_of(numbers[first:last]):
        return None
    try:
        return value_within(numbers, first, last), end
    except BadBytes:
        return None


def records_of(numbers):
    """The pairs of a value and where its record ends, of the records with which bytes begin."""
    found = []
    at = 0
    told = record_at(numbers, at)
    while told is not None:
        found.append(told)
        at = told[1]
        told = record_at(numbers, at)
    return found


def read_log(numbers):
    """The values of the records with which bytes begin, and the length of all these."""
    want_bytes(numbers)
    found = records_of(numbers)
    return ([value for value, _ in found], found[-1][1] if found else 0)
