"""Texts of machines."""

from gatewords.machines import MOST_READ, MOST_STATES, Machine, want_machine
from gatewords.signs import DIGITS, begins_number, next_signs, read_text

# What is to come next in a machine text: the number of letters, its {, the
# letter of a way or the end of a state, the > of a way, its state, an end of
# the machine, nothing any more.
LETTERS = 0
OPENING = 1
WAY = 2
ARROW = 3
GOAL = 4
END = 5
NOTHING = 6


class MachineReader:
    """A reader of the text of one machine with from least to most letters."""

    def __init__(self, least, most):
        self.least = least
        self.most = most
        self.expects = LETTERS
        self.digits = ""
        self.letters = 0
        self.states = []
        self.way = []
        self.letter = 0
        self.greatest = 0
        self.ends = []

    def span(self):
        """The least and the greatest number that may stand next, None if none may."""
        if self.expects == LETTERS:
            return (self.least, self.most)
        if self.expects == WAY and len(self.states) < MOST_STATES:
            return (self.way[-1][0] + 1 if self.way else 0, self.letters - 1)
        if self.expects == GOAL:
            return (0, MOST_STATES - 1)
        if self.expects == END:
            return (self.ends[-1] + 1 if self.ends else 0, len(self.states) - 1)
        return None

    def is_number_whole(self):
        """Whether the digits that were read are a number that may stand there."""
        least, most = self.span()
        return least <= int(self.digits) <= most

    def other_signs(self):
        """The signs, but digits and blanks, that may stand next."""
        if self.digits:
            behind = {LETTERS: "{", WAY: ">", GOAL: ";", END: "."}
            return behind[self.expects] if self.is_number_whole() else ""
        if self.expects == WAY:
            closing = ";" if len(self.states) < MOST_STATES else ""
            told = not self.way and self.states and self.greatest < len(self.states)
            return closing + "}" if told else closing
        if self.expects == OPENING:
            return "{"
        if self.expects == ARROW:
            return ">"
        return "." if self.expects == END else ""

    def lets(self, sign):
        """Whether a sign may stand next."""
        if sign in DIGITS:
            span = self.span()
            return span is not None and begins_number(self.digits + sign, span[0], span[1])
        if sign == " ":
            return not self.digits or self.is_number_whole()
        return sign in self.other_signs()

    def end_number(self):
        """Take the digits that were read for a number."""
        number = int(self.digits)
        self.digits = ""
        if self.expects == LETTERS:
            self.letters = number
            self.expects = OPENING
        elif self.expects == WAY:
            self.letter = number
            self.expects = ARROW
        elif self.expects == GOAL:
            self.way.append((self.letter, number))
            self.greatest = max(self.greatest, number)
            self.expects = WAY
        else:
            self.ends.append(number)

    def feed(self, sign):
        """Read a sign, if it may stand next; whether it may."""
        if not self.lets(sign):
            return False
        if sign in DIGITS:
            self.digits += sign
            return True
        if self.digits:
            self.end_number()
        if sign == ";":
            self.states.append(self.way)
            self.way = []
        elif sign != " ":
            self.expects = {"{": WAY, ">": GOAL, "}": END, ".": NOTHING}[sign]
        return True

    def whole(self):
        """Whether what was read is a machine text."""
        return self.expects == NOTHING

    def told(self):
        """The Machine of the text that was read."""
        ways = []
        for way in self.states:
            goals = dict(way)
            ways.append([goals.get(letter) for letter in range(self.letters)])
        return Machine(self.letters, ways, self.ends)


def machine_of_text(text):
    """The Machine of a machine text."""
    reader = MachineReader(1, MOST_READ)
    read_text(reader, text)
    return reader.told()


def state_text(way):
    """The text of the ways of one state."""
    return " ".join([f"{letter}>{to}" for letter, to in enumerate(way) if to is not None]) + ";"


def machine_text(machine):
    """The text of a machine."""
    want_machine(machine)
    states = " ".join([state_text(way) for way in machine.ways])
    ends = "".join([f" {end}" for end in machine.ends])
    return str(machine.letters) + " {" + states + "}" + ends + "."


def next_in_machine(text):
    """Whether a beginning is a machine text, and the signs that may stand behind it."""
    return next_signs(MachineReader(1, MOST_READ), text)
