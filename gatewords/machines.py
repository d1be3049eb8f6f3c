"""Machines that read rows of numbers and take some of them."""

from gatewords.errors import BadMachine, BadNumber, BadWord, TooMany
from gatewords.letters import is_list, is_number_in, is_row

MOST_READ = 169
MOST_STATES = 2000
MOST_ROWS = 3000


def is_way(letters, states, thing):
    """Whether any value tells, for each letter, a state or None."""
    if not is_list(thing) or len(thing) != letters:
        return False
    return all([to is None or is_number_in(to, 0, states - 1) for to in thing])


def are_ways(letters, thing):
    """Whether any value is a list of ways, one for each of its states."""
    if not is_list(thing) or not 1 <= len(thing) <= MOST_STATES:
        return False
    return all([is_way(letters, len(thing), way) for way in thing])


def are_ends(states, thing):
    """Whether any value is an ascending list of unlike states."""
    if not is_list(thing) or not all([is_number_in(end, 0, states - 1) for end in thing]):
        return False
    return all([thing[k] < thing[k + 1] for k in range(len(thing) - 1)])


class Machine:
    """A machine that begins in state 0, goes as ways tells, and takes rows to ends."""

    def __init__(self, letters, ways, ends):
        if not is_number_in(letters, 1, MOST_READ):
            raise BadMachine("letters")
        if not are_ways(letters, ways):
            raise BadMachine("ways")
        if not are_ends(len(ways), ends):
            raise BadMachine("ends")
        self.letters = letters
        self.ways = tuple([tuple(way) for way in ways])
        self.ends = tuple(ends)

    def __eq__(self, other):
        if not isinstance(other, Machine):
            return False
        return self.letters == other.letters and self.ways == other.ways and self.ends == other.ends


def want_machine(machine):
    """BadMachine(None) unless a Machine."""
    if not isinstance(machine, Machine):
        raise BadMachine(None)


def want_as_many(one, other):
    """BadMachine(None) unless Machines, BadMachine("letters") unless of as many letters."""
    want_machine(one)
    want_machine(other)
    if one.letters != other.letters:
        raise BadMachine("letters")


def want_row(machine, row):
    """BadWord unless a row of what the machine reads."""
    if not is_row(machine.letters, row):
        raise BadWord("not a row of what this machine reads")


def state_behind(ways, state, row):
    """The state to which a row leads from a state, or from nowhere."""
    for number in row:
        if state is None:
            return None
        state = ways[state][number]
    return state


def goal(machine, row):
    """The state to which the machine goes by a row, None if nowhere."""
    want_machine(machine)
    want_row(machine, row)
    return state_behind(machine.ways, 0, row)


def takes(machine, row):
    """Whether the machine goes to one of its ends by a row."""
    want_machine(machine)
    want_row(machine, row)
    return state_behind(machine.ways, 0, row) in machine.ends


def one_number_on(ways, led):
    """The rows, each with its state, that are one number longer than some such rows."""
    longer = []
    for row, state in led:
        for number, behind in enumerate(ways[state]):
            if behind is not None:
                longer.append((row + (number,), behind))
        if len(longer) > MOST_ROWS:
            raise TooMany(MOST_ROWS)
    return longer


def rows_up_to(machine, most):
    """All rows of at most most numbers that the machine takes, in their order."""
    want_machine(machine)
    if not is_number_in(most, 0, 6):
        raise BadNumber("most")
    ends = {end: True for end in machine.ends}
    found = []
    led = [((), 0)]
    for length in range(most + 1):
        found.extend([row for row, state in led if state in ends])
        if length < most:
            led = one_number_on(machine.ways, led)
    return found
