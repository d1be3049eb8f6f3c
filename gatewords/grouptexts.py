"""Texts of groups."""

from gatewords.groups import MOST_RULES, MOST_SIDE, Group, want_group
from gatewords.letters import MOST_BACK
from gatewords.lettertexts import SMALL, letter_names
from gatewords.signs import next_signs, read_text
from gatewords.wordreaders import WordReader
from gatewords.wordtexts import text_of_word, word_of_tree

LEAST_BACK = 2

# What is to come next in a group text: its <, a name or the |, a rule or the >,
# the one side of a rule, the other one, nothing any more.
OPENING = 0
NAMES = 1
RULES = 2
ONE_SIDE = 3
OTHER_SIDE = 4
NOTHING = 5


class GroupReader:
    """A reader of the text of one group."""

    def __init__(self):
        self.expects = OPENING
        self.names = ""
        self.rules = []
        self.side = None
        self.word = None

    def next_names(self):
        """The names of which one may stand next."""
        if len(self.names) == MOST_BACK:
            return ""
        small = [name for name in SMALL if name in self.names]
        capitals = [name.upper() for name in small if name.upper() not in self.names]
        return "".join(capitals) + SMALL[len(small):len(small) + 1]

    def signs_behind_word(self):
        """The signs that may stand behind the word that was read."""
        if not self.side.whole():
            return ""
        if self.expects == ONE_SIDE:
            return "="
        return ">," if len(self.rules) + 1 < MOST_RULES else ">"

    def other_signs(self):
        """The signs, but blanks and those of words, that may stand next."""
        if self.expects == OPENING:
            return "<"
        if self.expects == NAMES:
            return self.next_names() + ("|" if len(self.names) >= LEAST_BACK else "")
        if self.expects == RULES:
            return ">"
        return "" if self.expects == NOTHING else self.signs_behind_word()

    def lets(self, sign):
        """Whether a sign may stand next."""
        if sign == " " or sign in self.other_signs():
            return True
        return self.side is not None and self.side.lets(sign)

    def begin_side(self, expects):
        """Let the side of a rule come next."""
        self.expects = expects
        self.side = WordReader(self.names, MOST_SIDE)

    def back_told(self):
        """The back that the names tell."""
        found = []
        for name in self.names:
            other = name.lower() if name.isupper() else name.upper()
            found.append(self.names.index(other if other in self.names else name))
        return tuple(found)

    def end_side(self, sign):
        """Read a sign behind the side of a rule."""
        word = word_of_tree(self.back_told(), self.side.told())
        self.side = None
        if self.expects == ONE_SIDE:
            self.word = word
            self.begin_side(OTHER_SIDE)
            return
        self.rules.append((self.word, word))
        if sign == ",":
            self.begin_side(ONE_SIDE)
        else:
            self.expects = NOTHING

    def read_other(self, sign):
        """Read a sign that is not one of a word."""
        if self.expects == OPENING:
            self.expects = NAMES
        elif self.expects == RULES:
            self.side = None
            self.expects = NOTHING
        elif self.expects != NAMES:
            self.end_side(sign)
        elif sign == "|":
            self.begin_side(RULES)
        else:
            self.names += sign

    def feed(self, sign):
        """Read a sign, if it may stand next; whether it may."""
        if not self.lets(sign):
            return False
        if self.side is not None and self.side.lets(sign):
            self.side.feed(sign)
            if self.expects == RULES and sign != " ":
                self.expects = ONE_SIDE
        elif sign != " ":
            self.read_other(sign)
        return True

    def whole(self):
        """Whether what was read is a group text."""
        return self.expects == NOTHING

    def told(self):
        """The Group of the text that was read."""
        return Group(self.back_told(), self.rules)


def group_of_text(text):
    """The Group of a group text."""
    reader = GroupReader()
    read_text(reader, text)
    return reader.told()


def told_group_text(group):
    """The text of a group."""
    names = letter_names(group.back)
    rules = [f" {text_of_word(names, one)} = {text_of_word(names, other)}" for one, other in group.rules]
    return "<" + " ".join(list(names)) + " |" + ",".join(rules) + ">"


def group_text(group):
    """The text of a group."""
    want_group(group)
    return told_group_text(group)


def next_in_group(text):
    """Whether a beginning is a group text, and the signs that may stand behind it."""
    return next_signs(GroupReader(), text)
