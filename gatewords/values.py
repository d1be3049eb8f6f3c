"""Values, and the bytes that tell them."""

from gatewords.errors import BadBytes, BadValue
from gatewords.letters import is_list, is_number, is_number_in

BASE = 128
MOST_DIGITS = 9
MOST_SIGNS = 127
MOST_LENGTH_DIGITS = 3
MOST_TUPLES = 8
SIGNS = "abcdefghijklmnopqrstuvwxyz"
FIRST_SIGN = 97
NONE = 0
NUMBER = 1
STRING = 2
TUPLE = 3


def is_string_value(thing):
    """Whether any value is a string of at most 127 of the letters a to z."""
    return isinstance(thing, str) and len(thing) <= MOST_SIGNS and all([sign in SIGNS for sign in thing])


def is_value(thing, tuples):
    """Whether any value is one within which at most so many tuples are within one another."""
    if thing is None or is_string_value(thing):
        return True
    if is_number(thing):
        return 0 <= thing < BASE ** 9
    if not isinstance(thing, tuple) or not tuples or len(thing) >= BASE ** 3:
        return False
    return all([is_value(inner, tuples - 1) for inner in thing])


def digits_of(number):
    """The digits of a number to the base 128, the least first, 128 added to each but the last."""
    digits = []
    while number >= BASE:
        digits.append(number % BASE + BASE)
        number = number // BASE
    return digits + [number]


def put_bytes(value, numbers):
    """Put the bytes of a value behind some numbers."""
    if value is None:
        numbers.append(NONE)
    elif isinstance(value, int):
        numbers.append(NUMBER)
        numbers.extend(digits_of(value))
    elif isinstance(value, str):
        numbers.extend([STRING, len(value)])
        numbers.extend([FIRST_SIGN + SIGNS.index(sign) for sign in value])
    else:
        numbers.append(TUPLE)
        numbers.extend(digits_of(len(value)))
        for inner in value:
            put_bytes(inner, numbers)


def bytes_told(value):
    """The bytes of a value; BadValue unless one."""
    if not is_value(value, MOST_TUPLES):
        raise BadValue("not a value")
    numbers = []
    put_bytes(value, numbers)
    return numbers


def value_bytes(value):
    """The bytes of a value."""
    return bytes_told(value)


def want_bytes(numbers):
    """BadBytes(None) unless a list of numbers from 0 to 255."""
    if not is_list(numbers) or not all([is_number_in(number, 0, 255) for number in numbers]):
        raise BadBytes(None)


class ByteReader:
    """A reader of values from bytes, which may begin anywhere and end ahead of the last one."""

    def __init__(self, numbers, at, end):
        self.numbers = numbers
        self.at = at
        self.end = end

    def one(self, least, most):
        """The next number, from least to most; BadBytes unless there is such a one."""
        if self.at >= self.end or not least <= self.numbers[self.at] <= most:
            raise BadBytes(self.at)
        self.at += 1
        return self.numbers[self.at - 1]

    def number(self, most_digits):
        """The number told by the next digits, at most so many."""
        number = 0
        weight = 1
        for place in range(most_digits):
            # The last digit is not 0, but for the number 0, and ends as one without 128 added.
            most = BASE - 1 if place == most_digits - 1 else 255
            digit = self.one(0, most)
            if place and digit == 0:
                raise BadBytes(self.at - 1)
            number += weight * (digit & BASE - 1)
            if digit < BASE:
                break
            weight = weight * BASE
        return number

    def string(self):
        """The string told by the next numbers."""
        size = self.one(0, MOST_SIGNS)
        last = FIRST_SIGN + len(SIGNS) - 1
        return "".join([SIGNS[self.one(FIRST_SIGN, last) - FIRST_SIGN] for _ in range(size)])

    def value(self, tuples):
        """The value told by the next numbers, at most so many tuples being within one another."""
        kind = self.one(NONE, TUPLE if tuples else STRING)
        if kind == NONE:
            return None
        if kind == NUMBER:
            return self.number(MOST_DIGITS)
        if kind == STRING:
            return self.string()
        size = self.number(MOST_LENGTH_DIGITS)
        return tuple([self.value(tuples - 1) for _ in range(size)])


def value_within(numbers, at, end):
    """The value of which the numbers from at to before end are the bytes; BadBytes unless they are such."""
    reader = ByteReader(numbers, at, end)
    value = reader.value(MOST_TUPLES)
    if reader.at < end:
        raise BadBytes(reader.at)
    return value


def value_of(numbers):
    """The value of which these are the bytes."""
    want_bytes(numbers)
    return value_within(numbers, 0, len(numbers))
