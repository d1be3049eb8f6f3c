"""Texts of claims."""

from gatewords.claims import Claim, want_claim
from gatewords.grouptexts import GroupReader, told_group_text
from gatewords.machinetexts import MachineReader, machine_text
from gatewords.signs import next_signs, read_text


class ClaimReader:
    """A reader of the text of one claim: a group, then the machines of words and nears."""

    def __init__(self):
        self.group = GroupReader()
        self.machines = []

    def machines_wanted(self):
        """How many machines there are to be, once the group is whole."""
        return len(self.group.names) + 2

    def reader_now(self):
        """The reader of what is being read."""
        return self.machines[-1] if self.machines else self.group

    def following(self):
        """A reader of the machine that may come next, None if none may."""
        if not self.reader_now().whole() or len(self.machines) == self.machines_wanted():
            return None
        many = len(self.group.names)
        letters = (many + 1) ** 2 if self.machines else many
        return MachineReader(letters, letters)

    def lets(self, sign):
        """Whether a sign may stand next."""
        if self.reader_now().lets(sign):
            return True
        further = self.following()
        return further is not None and further.lets(sign)

    def feed(self, sign):
        """Read a sign, if it may stand next; whether it may."""
        if self.reader_now().feed(sign):
            return True
        further = self.following()
        if further is None or not further.feed(sign):
            return False
        self.machines.append(further)
        return True

    def whole(self):
        """Whether what was read is a claim text."""
        return self.group.whole() and len(self.machines) == self.machines_wanted() and self.reader_now().whole()

    def told(self):
        """The Claim of the text that was read."""
        machines = [reader.told() for reader in self.machines]
        return Claim(self.group.told(), machines[0], machines[1:])


def claim_of_text(text):
    """The Claim of a claim text."""
    reader = ClaimReader()
    read_text(reader, text)
    return reader.told()


def claim_text(claim):
    """The text of a claim."""
    want_claim(claim)
    machines = [machine_text(machine) for machine in (claim.words,) + claim.nears]
    return " ".join([told_group_text(claim.group)] + machines)


def next_in_claim(text):
    """Whether a beginning is a claim text, and the signs that may stand behind it."""
    return next_signs(ClaimReader(), text)
