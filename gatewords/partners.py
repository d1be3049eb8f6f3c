"""The least words that a near pairs with one word."""

from gatewords.shapes import states_before


def ways_beside(many, ways, first):
    """For each state the ways by letters of the second word beside this one of the first.

    As everywhere in pair rows, many stands for no letter, the first word having ended.
    """
    start = first * (many + 1)
    found = []
    for way in ways:
        found.append({second: way[start + second] for second in range(many) if start + second in way})
    return found


def states_behind(ways, states):
    """The states to which ways lead from these, each one once."""
    found = {}
    for state in states:
        for to in ways[state].values():
            found[to] = True
    return list(found)


def marks_alone(many, shape, word):
    """For each place of the word whether its rest, beside no letters, leads states to ends."""
    ways, ends = shape
    marks = [list(ends)]
    for letter in word[::-1]:
        number = letter * (many + 1) + many
        behind = marks[-1]
        marks.append([number in way and behind[way[number]] for way in ways])
    return marks[::-1]


def marks_of_tails(shape, tails):
    """For each state whether letters of the second word alone lead from it to an end."""
    return states_before([list(way.values()) for way in tails], shape[1])


def kept_layers(ways_at, layers, goals):
    """Of each layer the states from which ways lead, layer by layer, to one of the goals."""
    kept = [{state: True for state in goals}]
    for ways, states in zip(ways_at[::-1], layers[::-1]):
        ahead = kept[-1]
        kept.append({s: True for s in states if any([to in ahead for to in ways[s].values()])})
    return kept[::-1]


def words_through(ways_at, kept, most):
    """The first words, most of them at most, by which ways lead through the kept layers."""
    found = []
    path = []
    waiting = [(0, None, 0)]
    while waiting and len(found) < most:
        size, last, state = waiting.pop()
        if size:
            path[size - 1:] = [last]
        if size == len(ways_at):
            found.append(tuple(path))
            continue
        way = ways_at[size][state]
        for letter in sorted(way, reverse=True):
            if way[letter] in kept[size + 1]:
                waiting.append((size + 1, letter, way[letter]))
    return found


def partners(many, shape, word, most):
    """The least words with which a shape pairs a word, most of them at most, in their order."""
    ways, ends = shape
    beside = {letter: ways_beside(many, ways, letter) for letter in sorted(set(word))}
    tails = ways_beside(many, ways, many)
    live = marks_of_tails(shape, tails)
    alone = marks_alone(many, shape, word)
    found = []
    ways_at = []
    layers = []
    states = [0]
    while len(found) < most:
        size = len(layers)
        if size >= len(word):
            states = [state for state in states if live[state]]
        if not states:
            return found
        taken = alone[size] if size < len(word) else ends
        goals = [state for state in states if taken[state]]
        if goals:
            kept = kept_layers(ways_at, layers, goals)
            found.extend(words_through(ways_at, kept, most - len(found)))
        layers.append(states)
        ways_at.append(beside[word[size]] if size < len(word) else tails)
        states = states_behind(ways_at[-1], states)
    return found
