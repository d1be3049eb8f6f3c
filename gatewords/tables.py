"""Finite groups wholly: tables of products, orders and classes of conjugates."""

from gatewords.errors import Endless, TooMany
from gatewords.points import places_led, points_of
from gatewords.rowgrowth import how_many
from gatewords.steadies import want_steady

MOST_TABLED = 120


def few_points(steady):
    """The normal words in order, and how letters move their places; Endless or TooMany if not few."""
    want_steady(steady)
    many = how_many(steady.claim.words)
    if many is None:
        raise Endless("there are endlessly many normal words")
    if many > MOST_TABLED:
        raise TooMany(MOST_TABLED)
    return points_of(steady)


def products(points):
    """For each place the list of the places to which each normal word leads it."""
    words, moves = points
    columns = [places_led(moves, list(range(len(words))), word) for word in words]
    return [[column[place] for column in columns] for place in range(len(words))]


def normals(steady):
    """The list of all normal words, in order."""
    return few_points(steady)[0]


def table(steady):
    """For each normal word the places of those to which the normal words lead from it."""
    return products(few_points(steady))


def order_in(rows, place):
    """How many times a normal word leads () to () for the first time."""
    times = 1
    here = place
    # Of no group it is open what is told; this ends there, too.
    while here and times < len(rows):
        here = rows[here][place]
        times += 1
    return times


def orders(steady):
    """For each normal word its order."""
    rows = products(few_points(steady))
    return [order_in(rows, place) for place in range(len(rows))]


def conjugates_in(rows, letters, place):
    """The ascending list of the places of the conjugates of a normal word, letters being those of letters."""
    known = {place: True}
    waiting = [place]
    while waiting:
        here = waiting.pop()
        for undoing, letter in letters:
            to = rows[rows[undoing][here]][letter]
            if to not in known:
                known[to] = True
                waiting.append(to)
    return sorted(known)


def classes(steady):
    """The ascending list of the ascending lists of places of words that are conjugates of each other."""
    points = few_points(steady)
    rows = products(points)
    back = steady.claim.group.back
    # The place of the normal word of a letter is that to which the letter leads ().
    letters = [(points[1][undoing][0], points[1][letter][0]) for letter, undoing in enumerate(back)]
    known = {}
    found = []
    for place in range(len(rows)):
        if place not in known:
            found.append(conjugates_in(rows, letters, place))
            known.update({other: True for other in found[-1]})
    return found
