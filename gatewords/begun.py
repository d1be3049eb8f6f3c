"""What rows begin with, and what may stand behind them."""

from gatewords.machines import state_behind, want_machine, want_row
from gatewords.shapes import live_states, made, no_shape, shape_of, trimmed


def beginnings(machine):
    """The machine that takes all rows with which rows of this one begin."""
    want_machine(machine)
    ways, ends = shape_of(machine)
    return made(machine.letters, (ways, live_states(ways, ends)))


def is_begun(machine):
    """Whether a machine takes each row with which one of its rows begins."""
    want_machine(machine)
    _, ends = trimmed(shape_of(machine))
    return all(ends) or not any(ends)


def rows_behind(machine, row):
    """The machine that takes what makes, put behind a row, one that this one takes."""
    want_machine(machine)
    want_row(machine, row)
    start = state_behind(machine.ways, 0, row)
    if start is None:
        return made(machine.letters, no_shape())
    ways, ends = shape_of(machine)
    # One state more begins as the state behind the row does, and is state 0.
    return made(machine.letters, begun_at(ways, ends, start))


def begun_at(ways, ends, start):
    """The shape that begins in the state start."""
    first = {number: to + 1 for number, to in ways[start].items()}
    others = [{number: way[number] + 1 for number in way} for way in ways]
    return [first] + others, [ends[start]] + ends
