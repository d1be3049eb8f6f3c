"""Live groups, which change while claims of them are kept and questions answered."""

from gatewords.changes import changed, is_change
from gatewords.claims import Claim
from gatewords.deeds import judged_deed, judged_question
from gatewords.distances import order_of
from gatewords.errors import BadClaim, BadDeed, BadJudged, BadMachine, BadQuestion, BadSteady, NotLet
from gatewords.groups import want_group
from gatewords.judgeds import Judged, want_judged
from gatewords.keeping import kept_told, lets_swap, swapped
from gatewords.letters import is_row
from gatewords.machines import Machine
from gatewords.normals import is_alike, normal
from gatewords.rowgrowth import is_finite


def is_question(thing):
    """Whether any value is a question."""
    return judged_question(thing)


def is_deed(thing):
    """Whether any value is a deed."""
    return judged_deed(thing)


def lacks_letters(group, question):
    """Whether words of a question have letters that a group has not."""
    words = [part for part in question[1:] if isinstance(part, tuple)]
    return not all([is_row(len(group.back), word) for word in words])


def answer_of(judged, question):
    """The answer to a question, of a Judged or None."""
    if judged is None:
        return "open"
    if lacks_letters(judged.claim.group, question):
        return "lacks"
    if question[0] == "alike":
        return is_alike(judged.steady, question[1], question[2])
    if question[0] == "normal":
        return normal(judged.steady, question[1])
    if question[0] == "finite":
        return is_finite(judged.claim.words)
    order = order_of(judged.steady, question[1], question[2])
    return "none" if order is None else order


def answered(judged, question):
    """The answer to a question, of a Judged or None."""
    if judged is not None:
        want_judged(judged)
    if not judged_question(question):
        raise BadQuestion("not a question")
    return answer_of(judged, question)


def judged_by(group, deed):
    """The Judged of a group that a deed claims; NotLet("claim") if there is none."""
    _, words, nears, paper = deed
    try:
        machines = [Machine(letters, ways, ends) for letters, ways, ends in nears]
        return Judged(Claim(group, Machine(words[0], words[1], words[2]), machines), paper)
    except (BadMachine, BadClaim, BadSteady, BadJudged):
        raise NotLet("claim")


class Standing:
    """What a live group has come to: the group, what was judged, and the questions."""

    def __init__(self, group, judged, asked, many):
        self.group = group
        self.judged = judged
        # The pairs of a number and a question, and how many questions there were ever.
        self.asked = asked
        self.many = many

    def with_group(self, group, judged):
        """The same questions of a group and what was judged of it."""
        return Standing(group, judged, self.asked, self.many)

    def behind_change(self, change):
        """What a change makes of it."""
        if self.judged is None:
            return self.with_group(changed(self.group, change), None)
        judged = kept_told(self.judged, change)
        return self.with_group(changed(self.group, change) if judged is None else judged.claim.group, judged)

    def behind_swap(self, place, road):
        """What it comes to where a rule goes of which a road shows that it follows."""
        if place >= len(self.group.rules):
            raise NotLet("place")
        if not lets_swap(self.group, place, road):
            raise NotLet("road")
        judged = None if self.judged is None else swapped(self.judged, place, road)
        return self.with_group(changed(self.group, ("drop", place)), judged)

    def behind_unask(self, number):
        """What it comes to without one of its questions."""
        asked = [pair for pair in self.asked if pair[0] != number]
        if len(asked) == len(self.asked):
            raise NotLet("number")
        return Standing(self.group, self.judged, asked, self.many)

    def behind(self, deed):
        """What a deed makes of it; NotLet if it cannot be done."""
        if is_change(deed):
            return self.behind_change(deed)
        if deed[0] == "claim":
            return self.with_group(self.group, judged_by(self.group, deed))
        if deed[0] == "swap":
            return self.behind_swap(deed[1], deed[2])
        if deed[0] == "unask":
            return self.behind_unask(deed[1])
        return Standing(self.group, self.judged, self.asked + [(self.many, deed[1])], self.many + 1)

    def answers(self):
        """The list of the pairs of a question's number and its answer."""
        return [(number, answer_of(self.judged, question)) for number, question in self.asked]


class Live:
    """A group that changes, with what is judged of it and what is asked of it."""

    def __init__(self, group):
        want_group(group)
        self.first = group
        self.group = group
        self.judged = None
        # The standing behind no deed, and behind each one, and what was taken back, the last one last.
        self.standings = [Standing(group, None, [], 0)]
        self.present = []
        self.taken = []

    def __eq__(self, other):
        if not isinstance(other, Live):
            return False
        return self.first == other.first and self.deeds() == other.deeds() and self.undone() == other.undone()

    def show(self):
        """Let the attributes tell the last standing."""
        self.group = self.standings[-1].group
        self.judged = self.standings[-1].judged

    def standing_behind(self, deed):
        """The standing behind one more deed."""
        if not judged_deed(deed):
            raise BadDeed("not a deed")
        return self.standings[-1].behind(deed)

    def do(self, deed):
        """Do a deed; what was undone is dropped."""
        self.standings.append(self.standing_behind(deed))
        self.present.append(deed)
        self.taken = []
        self.show()

    def undo(self):
        """Take the last deed back."""
        if not self.present:
            raise NotLet("undo")
        self.taken.append((self.present.pop(), self.standings.pop()))
        self.show()

    def redo(self):
        """Do again the last deed that was taken back."""
        if not self.taken:
            raise NotLet("redo")
        deed, standing = self.taken.pop()
        self.present.append(deed)
        self.standings.append(standing)
        self.show()

    def questions(self):
        """The list of the pairs of a number and a question that is asked."""
        return list(self.standings[-1].asked)

    def answers(self):
        """The list of the pairs of a question's number and its answer."""
        return self.standings[-1].answers()

    def deeds(self):
        """The list of the present deeds."""
        return list(self.present)

    def undone(self):
        """The list of the deeds taken back, the one to be done again next first."""
        return [deed for deed, _ in self.taken[::-1]]

    def what_if(self, deed):
        """The numbers, answers now and answers behind a deed of questions with unlike ones."""
        behind = dict(self.standing_behind(deed).answers())
        now = self.standings[-1].answers()
        return [(number, answer, behind[number]) for number, answer in now
                if number in behind and answer != behind[number]]
