"""Roads of a group from words to what they are reduced to at a span."""

from gatewords.completing import completed, told_as_string
from gatewords.groups import want_group
from gatewords.letters import want_letters
from gatewords.spans import want_span


def put_step(road, step):
    """Put a step behind a road, or take the last one away if the step undoes it."""
    place, out, put = step
    if road and road[-1] == (place, put, out):
        road.pop()
    else:
        road.append(step)


def put_moved(road, steps, place, forward):
    """Put the steps of a road, or of the road back, so many letters further behind another road."""
    for at, out, put in steps if forward else steps[::-1]:
        put_step(road, (at + place, out, put) if forward else (at + place, put, out))


class Roads:
    """The roads from left sides of a completion's rules to right sides, made as they are wanted."""

    def __init__(self, completion):
        self.completion = completion
        self.known = {}
        for place, (one, other) in enumerate(completion.equations):
            self.known[-1 - place] = [(0, one, other)]

    def wanted(self, numbers):
        """The numbers of the rules, not known yet, on which these rules rest, ascending."""
        met = {}
        waiting = list(numbers)
        while waiting:
            number = waiting.pop()
            if number not in met and number not in self.known:
                met[number] = True
                waiting.extend([told[1] for told in self.completion.found[number][2]])
        return sorted(met)

    def along(self, proof):
        """The road that a proof tells."""
        # What a rule rests on was found ahead of it.
        for number in self.wanted([told[1] for told in proof]):
            self.known[number] = self.put_together(self.completion.found[number][2])
        return self.put_together(proof)

    def put_together(self, proof):
        """The road that a proof tells, of which all rules are known."""
        road = []
        for place, number, forward in proof:
            put_moved(road, self.known[number], place, forward)
        return road

    def to_reduced(self, word):
        """The road from a word to what the System of the completion reduces it to."""
        _, proof = self.completion.reduced_as_told(told_as_string(word))
        return self.along(proof)


def roads_at(group, span):
    """The Roads of a group at a span; TooMany if its System has too many rules."""
    completion = completed(group, span)
    completion.system()
    return Roads(completion)


def road_to_reduced(group, most, word):
    """A road of the group from a word to what it is reduced to at this span."""
    want_group(group)
    want_span(most)
    want_letters(group.back, word)
    return roads_at(group, most).to_reduced(word)
