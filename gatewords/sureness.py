"""Words that are surely the least of those alike with them, at whatever span.

A table tells how letters move a few points so that words that are alike move
each point to the same one. The words that lead the first point to itself are a
subgroup; how often a word goes by each way of the table tells where it is but
for what commutes there. The *mark* of a word is the point to which it moves the
first one, with numbers for these ways. Words that are alike have the same marks,
by however many tables. So if no word ahead of a word has the same marks, it is
the least of those alike with it.
"""

from gatewords.abelian import diagonal, less
from gatewords.groups import MOST_SIDE
from gatewords.letters import rank, turned_back
from gatewords.lettertexts import SMALL

# Tables are looked for of so many points at most, for each number of points in so
# many looks, and taken so many of it, divided by the number of letters.
MOST_POINTS = 7
MOST_LOOKS = 3000
MOST_TABLES = 48
# So many numbers that are told by divisors are kept of a table.
MOST_DIVISORS = 6
# The numbers that are 0 alone are told by one sum of them, each with another
# factor, up to multiples of a prime.
FACTOR = 1000003
PRIME = 2305843009213693951


def words_round(group):
    """The words that lead each point of a table to itself."""
    return [one + turned_back(group.back, other) for one, other in group.rules]


def put_way(back, table, point, letter, to):
    """Put a way and the one back into a table; whether nothing else was told there."""
    undoing = back[letter]
    if table[point][letter] not in (None, to) or table[to][undoing] not in (None, point):
        return False
    table[point][letter] = to
    table[to][undoing] = point
    return True


def may_go_round(back, table, point, word):
    """Whether a word may lead a point to itself; if just one way is left open for it this one is put."""
    front = point
    end = point
    ahead = 0
    last = len(word)
    while ahead < last and table[front][word[ahead]] is not None:
        front = table[front][word[ahead]]
        ahead += 1
    while last > ahead and table[end][back[word[last - 1]]] is not None:
        end = table[end][back[word[last - 1]]]
        last -= 1
    if last == ahead:
        return front == end
    return last > ahead + 1 or put_way(back, table, front, word[ahead], end)


def ways_open(table):
    """How many ways of a table are open."""
    return sum([way.count(None) for way in table])


def all_may_go_round(back, words, table):
    """Whether all words may lead all points to themselves; ways that follow are put."""
    before = None
    while before != ways_open(table):
        before = ways_open(table)
        for point in range(len(table)):
            if not all([may_go_round(back, table, point, word) for word in words]):
                return False
    return True


def open_way(table):
    """The first way of a table that is open, None if there is none."""
    for point, way in enumerate(table):
        if None in way:
            return point, way.index(None)
    return None


def further_tables(back, words, points, table):
    """The tables that come of one by putting its first open way."""
    point, letter = open_way(table)
    found = []
    for to in range(min(len(table) + 1, points)):
        longer = [list(way) for way in table]
        if to == len(table):
            longer.append([None] * len(back))
        if put_way(back, longer, point, letter, to) and all_may_go_round(back, words, longer):
            found.append(longer)
    return found


def tables_of(group, points):
    """Tables of a group in which letters move just so many points, all as far as was looked."""
    words = words_round(group)
    waiting = [[[None] * len(group.back)]]
    found = []
    looks = 0
    while waiting and looks < MOST_LOOKS:
        looks += 1
        table = waiting.pop()
        if open_way(table) is not None:
            waiting.extend(further_tables(group.back, words, points, table))
        elif len(table) == points:
            found.append(table)
    return found


class Marks:
    """The marks of words that one table tells, numbered as they are met; that of () has number 0."""

    def __init__(self, group, table):
        self.back = group.back
        self.table = table
        # Ways by these letters are counted, ways by those that undo them as often less.
        self.counted = [letter for letter, undoing in enumerate(group.back) if letter <= undoing]
        form, turns = diagonal(self.lines(group), len(table) * len(self.counted))
        self.divisors, columns = divided(form, turns)
        self.sums = [[self.sums_of(columns, point, letter) for letter in range(len(group.back))]
                     for point in range(len(table))]
        self.met = [(0, tuple([0 for _ in self.divisors]))]
        self.numbers = {self.met[0]: 0}
        self.ways = [[None] * len(group.back)]

    def line(self, point, word):
        """How often a word, from a point, goes by each way that is counted."""
        line = [0] * (len(self.table) * len(self.counted))
        for letter in word:
            to = self.table[point][letter]
            if letter <= self.back[letter]:
                line[point * len(self.counted) + self.counted.index(letter)] += 1
            else:
                line[to * len(self.counted) + self.counted.index(self.back[letter])] -= 1
            point = to
        return line

    def lines(self, group):
        """The lines that come to nothing in the commutative part of what leads from the first point to itself."""
        pairs = list(group.rules) + [((letter, undoing), ()) for letter, undoing in enumerate(group.back)]
        lines = [less(self.line(point, one), self.line(point, other))
                 for point in range(len(self.table)) for one, other in pairs]
        # The first ways that lead to points tell nothing.
        lines.extend([self.line(point, (letter,)) for point, letter in self.first_ways()])
        return [line for line in lines if any(line)]

    def first_ways(self):
        """For each point but the first one a way that leads to it from one met ahead of it."""
        met = [0]
        ways = []
        at = 0
        while at < len(met):
            for letter, to in enumerate(self.table[met[at]]):
                if to not in met:
                    met.append(to)
                    ways.append((met[at], letter))
            at += 1
        return ways

    def sums_of(self, columns, point, letter):
        """What a letter adds to the numbers of a mark, from a point."""
        line = self.line(point, (letter,))
        return [sum([a * b for a, b in zip(line, column)]) for column in columns]

    def step(self, number, letter):
        """The number of the mark of a word with a letter behind it, by that of the word's own mark."""
        if self.ways[number][letter] is None:
            point, told = self.met[number]
            more = self.sums[point][letter]
            whole = tuple([int(a + b) % divisor for a, b, divisor in zip(told, more, self.divisors)])
            self.ways[number][letter] = self.number_of((self.table[point][letter], whole))
        return self.ways[number][letter]

    def number_of(self, mark):
        """The number of a mark, a further one if it was not met."""
        if mark not in self.numbers:
            self.numbers[mark] = len(self.met)
            self.met.append(mark)
            self.ways.append([None] * len(self.back))
        return self.numbers[mark]


def divided(form, turns):
    """The divisors of a diagonal form that are kept, and what each counted way adds to the number told by each.

    The free numbers are made one, up to multiples of a prime.
    """
    kept = [place for place, number in enumerate(form) if number > 1][-MOST_DIVISORS:]
    whole = [0] * len(turns)
    for place, number in enumerate(form):
        if number == 0:
            whole = [int(FACTOR * a + row[place]) % PRIME for a, row in zip(whole, turns)]
    columns = [[row[place] for row in turns] for place in kept]
    return [form[place] for place in kept] + [PRIME], columns + [whole]


def marks_of(group):
    """The Marks of tables of a group."""
    tables = []
    for points in range(1, MOST_POINTS + 1):
        tables.extend(tables_of(group, points)[:MOST_TABLES // len(group.back)])
    return [Marks(group, table) for table in tables]


class Ball:
    """The least words of all marks that words of at most radius letters have, found in about so many moves.

    A move leads one mark on by one letter.
    """

    def __init__(self, group, moves):
        self.back = group.back
        self.marks = marks_of(group)
        self.radius = 0
        level = [(0,) * len(self.marks)]
        self.leasts = {level[0]: ""}
        while level and self.radius < MOST_SIDE and self.moves_from(level) < moves:
            level = self.further(level)
            self.radius += 1

    def moves_from(self, level):
        """How many moves there were when all words of a level are led on, too."""
        return (len(self.leasts) + len(level)) * len(self.back) * len(self.marks)

    def step(self, place, letter):
        """The marks of a word with a letter behind it, by those of the word."""
        return tuple([mark.step(number, letter) for mark, number in zip(self.marks, place)])

    def further(self, level):
        """The marks that words of one letter more are the first to have."""
        found = []
        for place in level:
            for letter in range(len(self.back)):
                to = self.step(place, letter)
                if to not in self.leasts:
                    self.leasts[to] = self.leasts[place] + SMALL[letter]
                    found.append(to)
        return found

    def reach(self, words, moves):
        """How many letters so many words may have that can be judged in about so many moves."""
        letters = self.radius
        needed = words * len(self.marks) * len(self.back)
        while needed <= moves:
            needed = needed * max(2, len(self.back) - 1)
            letters += 1
        return letters

    def marked(self, word):
        """The marks of a word."""
        place = (0,) * len(self.marks)
        for sign in word:
            place = self.step(place, SMALL.index(sign))
        return place

    def before(self, places):
        """The marks from which a letter leads to others, told as those are with the least words behind them."""
        found = {}
        for place, rest in places.items():
            for letter, undoing in enumerate(self.back):
                ahead = self.step(place, undoing)
                longer = SMALL[letter] + rest
                found[ahead] = min(longer, found.get(ahead, longer))
        return found

    def is_surely_least(self, word):
        """Whether no word ahead of it has the same marks."""
        places = {self.marked(word): ""}
        for _ in range(len(word) - self.radius):
            # What the ball holds has too few letters for the word to be the least one.
            if any([place in self.leasts for place in places]):
                return False
            places = self.before(places)
        return not any([rank(self.leasts[place] + rest) < rank(word)
                        for place, rest in places.items() if place in self.leasts])


def are_surely_more(group, lefts, most, moves):
    """Whether it is sure that more than most of some words, none the least of those alike with it, stand alone so.

    That is, each shorter word that stands in them is the least of those alike
    with it. About so many moves are made to see it.
    """
    ball = Ball(group, moves // 2)
    reach = ball.reach(2 * most, moves // 2)
    near = [left for left in lefts if len(left) <= reach + 1]
    if len(near) <= most:
        return False
    many = 0
    for left in sorted(near, key=rank):
        if ball.is_surely_least(left[1:]) and ball.is_surely_least(left[:-1]):
            many += 1
            if many > most:
                return True
    return False
