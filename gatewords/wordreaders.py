"""Word texts read sign by sign, as a tree of what they tell.

A tree is a list of items, one behind the other: a letter, or a tuple: POWER, an
item and an exponent; ROUND and a tree; SQUARE and the trees of both parts.
"""

from gatewords.signs import DIGITS, begins_number

MOST_OPENED = 20
MOST_EXPONENT = 1000000

POWER = 0
ROUND = 1
SQUARE = 2

# What is to come next: a text, nothing of it any more behind 1, anything behind
# an item, an exponent, its number behind -, further digits, or anything but an
# exponent behind one.
BEGIN = 0
ONE = 1
ITEM = 2
EXPONENT = 3
MINUS = 4
NUMBER = 5
BEHIND = 6


class Bracket:
    """A bracket that is open, or the whole text, with what was read in it."""

    def __init__(self, sign, weight):
        self.sign = sign
        # How many letters of the whole text each letter in it makes.
        self.weight = weight
        # The tree and the number of letters ahead of the comma, None as long as it lacks.
        self.ahead = None
        self.tree = []
        self.size = 0
        # How many letters the last item makes here.
        self.last = 0

    def put(self, item, size):
        """Put an item that makes so many letters behind the others."""
        self.tree.append(item)
        self.size += size
        self.last = size

    def closed(self):
        """The item of the bracket, and how many letters it makes."""
        if self.sign == "(":
            return (ROUND, self.tree), self.size
        return (SQUARE, self.ahead[0], self.tree), 2 * (self.ahead[1] + self.size)


class WordReader:
    """A reader of one word text that reads as at most most letters, of these names."""

    def __init__(self, names, most):
        self.names = names
        self.most = most
        self.opened = [Bracket("", 1)]
        self.expects = BEGIN
        # How many letters there are at least, whatever comes, but for an exponent that is being read.
        self.least = 0
        self.digits = ""
        self.turns = False

    def lets_item(self):
        """Whether an item may stand next, as far as there is room."""
        return self.expects in (BEGIN, ITEM, NUMBER, BEHIND)

    def may_end(self):
        """Whether the text that is being read may end here."""
        return self.expects in (ONE, ITEM, NUMBER, BEHIND)

    def room_for(self, more):
        """Whether so many letters more may stand in the innermost bracket."""
        return self.least + more * self.opened[-1].weight + self.more_by_exponent(self.digits) <= self.most

    def more_by_exponent(self, digits):
        """How many letters more the digits of an exponent make of the last item."""
        if not digits:
            return 0
        return (int(digits) - 1) * self.opened[-1].last * self.opened[-1].weight

    def lets_digit(self, sign):
        """Whether a digit may stand next."""
        if self.expects == BEGIN:
            return sign == "1"
        if self.expects not in (EXPONENT, MINUS, NUMBER):
            return False
        digits = self.digits + sign
        if not begins_number(digits, 1, MOST_EXPONENT):
            return False
        return self.least + self.more_by_exponent(digits) <= self.most

    def lets_end(self, sign):
        """Whether a closing bracket or a comma may stand next."""
        bracket = self.opened[-1]
        if not self.may_end():
            return False
        if bracket.sign == "(":
            return sign == ")"
        return bracket.sign == "[" and sign == ("," if bracket.ahead is None else "]")

    def lets(self, sign):
        """Whether a sign may stand next."""
        if sign == " ":
            return True
        if sign in DIGITS:
            return self.lets_digit(sign)
        if sign in self.names:
            return self.lets_item() and self.room_for(1)
        if sign in "([":
            return self.lets_item() and len(self.opened) <= MOST_OPENED
        if sign == "^":
            return self.expects == ITEM
        if sign == "-":
            return self.expects == EXPONENT
        return self.lets_end(sign)

    def end_number(self):
        """Take the digits that were read for an exponent of the last item."""
        if not self.digits:
            return
        bracket = self.opened[-1]
        self.least += self.more_by_exponent(self.digits)
        number = int(self.digits)
        bracket.size += (number - 1) * bracket.last
        bracket.tree.append((POWER, bracket.tree.pop(), -number if self.turns else number))
        self.digits = ""
        self.turns = False
        self.expects = BEHIND

    def open_bracket(self, sign):
        """Read a bracket that opens."""
        weight = self.opened[-1].weight
        self.opened.append(Bracket(sign, weight if sign == "(" else 2 * weight))
        self.expects = BEGIN

    def end_text(self, sign):
        """Read a comma or a bracket that closes."""
        bracket = self.opened[-1]
        if sign == ",":
            bracket.ahead = (bracket.tree, bracket.size)
            bracket.tree = []
            bracket.size = 0
            self.expects = BEGIN
            return
        self.opened.pop()
        item, size = bracket.closed()
        self.opened[-1].put(item, size)
        self.expects = ITEM

    def read_digit(self, sign):
        """Read a digit."""
        if self.expects == BEGIN:
            self.expects = ONE
        else:
            self.digits += sign
            self.expects = NUMBER

    def read_other(self, sign):
        """Read a sign that is neither a blank nor a digit."""
        self.end_number()
        if sign == "^":
            self.expects = EXPONENT
        elif sign == "-":
            self.turns = True
            self.expects = MINUS
        elif sign in "([":
            self.open_bracket(sign)
        elif sign in self.names:
            self.opened[-1].put(self.names.index(sign), 1)
            self.least += self.opened[-1].weight
            self.expects = ITEM
        else:
            self.end_text(sign)

    def feed(self, sign):
        """Read a sign, if it may stand next; whether it may."""
        if not self.lets(sign):
            return False
        if sign == " ":
            self.end_number()
        elif sign in DIGITS:
            self.read_digit(sign)
        else:
            self.read_other(sign)
        return True

    def whole(self):
        """Whether what was read is a word text."""
        return len(self.opened) == 1 and self.may_end()

    def told(self):
        """The tree of the text that was read."""
        self.end_number()
        return self.opened[0].tree
