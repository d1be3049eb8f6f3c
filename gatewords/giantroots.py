"""Cores and roots of giants in the group without rules, and giants that commute."""

from gatewords.blockjoins import alike_ahead, entries_of
from gatewords.giantfree import free_both, free_giant, joined_free
from gatewords.giants import alike_words, giant_told, put_parts, want_giant, want_giants


def front_of(blocks, word):
    """With how many letters a free word begins that its end undoes."""
    size = blocks.size_of(word[0])
    many = alike_words(blocks, word[0], word[1])
    # What undoes itself has one letter that does so in its middle.
    return size // 2 if many == size else many


def giant_core(giant):
    """The front and the core of a giant: both, and what undoes the front, make its free word."""
    want_giant(giant)
    blocks, word = free_giant(giant)
    size = blocks.size_of(word[0])
    many = front_of(blocks, word)
    front = put_parts(blocks, [(word, 0, many)])
    return (giant_told(blocks, front), giant_told(blocks, put_parts(blocks, [(word, many, size - many)])))


def primes_of(number):
    """The primes that divide a number, each once, ascending."""
    found = []
    prime = 2
    while prime * prime <= number:
        if number % prime == 0:
            found.append(prime)
            while number % prime == 0:
                number = number // prime
        prime += 1 if prime == 2 else 2
    return found + [number] if number > 1 else found


def repeats(blocks, block, start, end, length):
    """Whether the letters of a block from start to before end are the first ones of them, again and again."""
    whole = entries_of(blocks, block, start, end)
    rest = entries_of(blocks, block, start + length, end)
    return alike_ahead(blocks, whole, rest) == end - start - length


def length_repeated(blocks, block, start, end):
    """The least length of which the letters of a block from start to before end are a power."""
    length = end - start
    for prime in primes_of(length):
        while length % prime == 0 and repeats(blocks, block, start, end, length // prime):
            length = length // prime
    return length


def giant_root(giant):
    """The root of a giant and how many times it is the giant, None for one alike with ()."""
    want_giant(giant)
    blocks, word = free_giant(giant)
    size = blocks.size_of(word[0])
    if size == 0:
        return None
    front = front_of(blocks, word)
    # A word that undoes itself has a core of one letter, so that it is its own root.
    length = length_repeated(blocks, word[0], front, size - front)
    root = put_parts(blocks, [(word, 0, front + length), (word, size - front, size)])
    return (giant_told(blocks, root), (size - 2 * front) // length)


def giants_commute(one, other):
    """Whether two giants are alike in either sequence in the group without rules."""
    want_giants(one, other)
    blocks, first, second = free_both(one, other)
    return joined_free(blocks, first, second) == joined_free(blocks, second, first)
