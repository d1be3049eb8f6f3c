"""A desk, to which lines are told that make giants and ask of them."""

from gatewords.errors import BadNumber, BadText, TooMany
from gatewords.giantfree import giant_free, giants_alike
from gatewords.giantroots import giants_commute
from gatewords.giants import giant_apart, giant_joined, giant_letter, giant_of_text, giant_part, giant_power
from gatewords.giants import giant_undone
from gatewords.letters import want_back
from gatewords.lettertexts import letter_names
from gatewords.signs import DIGITS

MOST_NAME = 12
MOST_TOLD_DIGITS = 13
SMALL_LETTERS = "abcdefghijklmnopqrstuvwxyz"

# For each form of a deed and of a question what stands behind its first word: N
# a name that is made or dropped, A a name that is there, # a number.
FORMS = {"join": "N=AA", "power": "N=A#", "part": "N=A##", "undo": "N=A", "free": "N=A", "drop": "A",
         "size": "A", "letter": "A#", "same": "AA", "apart": "AA", "alike": "AA", "commute": "AA",
         "names": "", "back": "", "again": ""}
DEEDS = ("word", "join", "power", "part", "undo", "free", "drop")


def is_name(word):
    """Whether a word may be a name."""
    return len(word) <= MOST_NAME and all([sign in SMALL_LETTERS for sign in word])


def is_told_number(word):
    """Whether a word may be a number."""
    if len(word) > MOST_TOLD_DIGITS or not all([sign in DIGITS for sign in word]):
        return False
    return word[0] != "0" or word == "0"


def fits(mark, word):
    """Whether a word may stand at a mark of a form."""
    if mark == "=":
        return word == "="
    return is_told_number(word) if mark == "#" else is_name(word)


def parted(line):
    """The words of a line."""
    return [word for word in line.split(" ") if word]


def word_told(line):
    """The name and the text of a line that tells a word, None if it is no such line."""
    words = parted(line)
    if len(words) < 3 or words[0] != "word" or not is_name(words[1]) or words[2] != "=":
        return None
    # No name has a =, so that the first one is the word by itself.
    return words[1], line[line.index("=") + 1:]


def asked(line):
    """The first word of a line, its names that are to be there, its numbers and its name that is made.

    None if the line is of no form.
    """
    words = parted(line)
    if not words or words[0] not in FORMS:
        return None
    marks = FORMS[words[0]]
    if len(marks) != len(words) - 1 or not all([fits(mark, word) for mark, word in zip(marks, words[1:])]):
        return None
    told = list(zip(marks, words[1:]))
    numbers = [int(word) for mark, word in told if mark == "#"]
    names = [word for mark, word in told if mark == "A"]
    return words[0], names, numbers, words[1] if words[0] in DEEDS else None


def made_giant(kind, giants, numbers):
    """The giant that a deed makes of others."""
    if kind == "join":
        return giant_joined(giants[0], giants[1])
    if kind == "power":
        return giant_power(giants[0], numbers[0])
    if kind == "part":
        return giant_part(giants[0], numbers[0], numbers[1])
    return giant_undone(giants[0]) if kind == "undo" else giant_free(giants[0])


def yes_or_no(told):
    """The answer for whether something is so."""
    return "yes" if told else "no"


def told_of(kind, giants, numbers):
    """The answer to a question of giants."""
    if kind == "size":
        return str(giants[0].size)
    if kind == "letter":
        return letter_names(giants[0].back)[giant_letter(giants[0], numbers[0])]
    if kind == "same":
        return yes_or_no(giants[0] == giants[1])
    if kind == "alike":
        return yes_or_no(giants_alike(giants[0], giants[1]))
    if kind == "commute":
        return yes_or_no(giants_commute(giants[0], giants[1]))
    many = giant_apart(giants[0], giants[1])
    return "none" if many is None else str(many)


class Desk:
    """Giants by their names, made by deeds that may be taken back."""

    def __init__(self, back):
        want_back(back)
        self.back = back
        # The giants by their names, as they are now.
        self.giants = {}
        # The lines of the deeds that stand, each with the giants ahead of it, and
        # of those taken back, each with the giants behind it, the last one last.
        self.present = []
        self.taken = []

    def __eq__(self, other):
        return isinstance(other, Desk) and self.back == other.back and self.giants == other.giants

    def do(self, line, name, giant):
        """Do the deed of a line that makes a name a giant, or none any more for None."""
        behind = {other: self.giants[other] for other in self.giants if other != name}
        if giant is not None:
            behind[name] = giant
        self.present.append((line, self.giants))
        self.taken = []
        self.giants = behind
        return "done"

    def go_back(self):
        """Take the last deed back."""
        if not self.present:
            return "nothing"
        line, ahead = self.present.pop()
        self.taken.append((line, self.giants))
        self.giants = ahead
        return "done"

    def go_again(self):
        """Do the last deed that was taken back anew."""
        if not self.taken:
            return "nothing"
        line, behind = self.taken.pop()
        self.present.append((line, self.giants))
        self.giants = behind
        return "done"

    def tell_word(self, line, name, text):
        """Answer a line that tells a word."""
        try:
            giant = giant_of_text(self.back, text)
        except BadText as wrong:
            return f"place {wrong.at}"
        return self.do(line, name, giant)

    def tell_names(self, line, kind, names, numbers, name):
        """Answer a line of names that are there and numbers."""
        giants = [self.giants[other] for other in names]
        try:
            if kind == "drop":
                return self.do(line, name, None)
            if name is None:
                return told_of(kind, giants, numbers)
            return self.do(line, name, made_giant(kind, giants, numbers))
        except BadNumber:
            return "range"
        except TooMany:
            return "large"

    def tell(self, line):
        """Do what a line tells, and answer it."""
        if not isinstance(line, str):
            raise BadText(None)
        word = word_told(line)
        if word is not None:
            return self.tell_word(line, word[0], word[1])
        told = asked(line)
        if told is None:
            return "what"
        kind, names, numbers, name = told
        if kind == "back":
            return self.go_back()
        if kind == "again":
            return self.go_again()
        if kind == "names":
            return " ".join(sorted(self.giants)) if self.giants else "none"
        missing = [other for other in names if other not in self.giants]
        if missing:
            return f"unknown {missing[0]}"
        return self.tell_names(line, kind, names, numbers, name)

    def journal(self):
        """The lines of the deeds that stand, as they were told."""
        return [line for line, _ in self.present]
