"""Giants, which are words of very many letters told by few signs.

In blocks a word is told by a pair: the block of it, and that of what undoes it.
"""

from gatewords.blockjoins import alike_ahead, block_of_letters, block_of_parts, entries_of, opened_all
from gatewords.blockpowers import block_of_power
from gatewords.blocks import Blocks
from gatewords.errors import BadGiant, BadNumber, TooMany
from gatewords.letters import MOST_LETTERS, is_number_in, turned_back, want_back, want_word
from gatewords.lettertexts import letter_names
from gatewords.signs import read_text
from gatewords.wordreaders import MOST_EXPONENT, POWER, ROUND, WordReader

MOST_GIANT = 10 ** 12
EMPTY = (None, None)


class Giant:
    """A word of at most 10 ** 12 letters; functions alone make it."""

    def __init__(self, back, size, nodes, turned):
        self.back = back
        self.size = size
        # What the blocks of the word, and of what undoes it, are made of: equal for equal words alone.
        self.nodes = nodes
        self.turned = turned

    def __eq__(self, other):
        return isinstance(other, Giant) and self.back == other.back and self.nodes == other.nodes


def want_giant(giant):
    """BadGiant(None) unless a Giant."""
    if not isinstance(giant, Giant):
        raise BadGiant(None)


def want_giants(one, other):
    """BadGiant(None) unless Giants, BadGiant("back") unless of one back."""
    want_giant(one)
    want_giant(other)
    if one.back != other.back:
        raise BadGiant("back")


def put_giant(blocks, giant):
    """The word of a giant in blocks."""
    return (blocks.put(giant.nodes), blocks.put(giant.turned))


def giant_told(blocks, word):
    """The Giant of a word in blocks."""
    return Giant(blocks.back, blocks.size_of(word[0]), blocks.nodes_of(word[0]), blocks.nodes_of(word[1]))


def put_letters(blocks, letters):
    """The word of some letters in blocks."""
    return (block_of_letters(blocks, letters), block_of_letters(blocks, turned_back(blocks.back, letters)))


def put_parts(blocks, parts):
    """The word of parts of words, told by word, start and end, one behind the other."""
    forward = [(word[0], start, end) for word, start, end in parts]
    turned = []
    for word, start, end in parts[::-1]:
        size = blocks.size_of(word[0])
        turned.append((word[1], size - end, size - start))
    return (block_of_parts(blocks, forward), block_of_parts(blocks, turned))


def put_words(blocks, words):
    """The word of words one behind the other."""
    return put_parts(blocks, [(word, 0, blocks.size_of(word[0])) for word in words])


def put_power(blocks, word, many):
    """The word that is so many times a word."""
    return (block_of_power(blocks, word[0], many), block_of_power(blocks, word[1], many))


def word_of_item(blocks, item):
    """The word in blocks that an item of a tree, but a letter, reads as."""
    if item[0] == POWER:
        word = word_of_tree(blocks, [item[1]])
        return put_power(blocks, word, item[2]) if item[2] > 0 else put_power(blocks, word[::-1], -item[2])
    if item[0] == ROUND:
        return word_of_tree(blocks, item[1])
    one = word_of_tree(blocks, item[1])
    other = word_of_tree(blocks, item[2])
    return put_words(blocks, [one[::-1], other[::-1], one, other])


def word_of_tree(blocks, tree):
    """The word in blocks that a tree reads as."""
    words = []
    letters = []
    for item in tree:
        if isinstance(item, int):
            letters.append(item)
            continue
        words.append(put_letters(blocks, letters))
        words.append(word_of_item(blocks, item))
        letters = []
    words.append(put_letters(blocks, letters))
    words = [word for word in words if word != EMPTY]
    return words[0] if len(words) == 1 else put_words(blocks, words)


def giant_of_text(back, text):
    """The Giant of a word text."""
    want_back(back)
    reader = WordReader(letter_names(back), MOST_GIANT)
    read_text(reader, text)
    blocks = Blocks(back)
    return giant_told(blocks, word_of_tree(blocks, reader.told()))


def giant_of_word(back, word):
    """The Giant of a word."""
    want_back(back)
    want_word(back, word)
    blocks = Blocks(back)
    return giant_told(blocks, put_letters(blocks, list(word)))


def giant_word(giant):
    """The word of a giant of few letters."""
    want_giant(giant)
    if giant.size > MOST_LETTERS:
        raise TooMany(MOST_LETTERS)
    blocks = Blocks(giant.back)
    block, _ = put_giant(blocks, giant)
    letters = []
    if block is not None:
        for letter, many in opened_all(blocks, [(block, 1)], 0):
            letters.extend([blocks.firsts[letter]] * many)
    return tuple(letters)


def giant_letter(giant, place):
    """The letter of a giant at a place."""
    want_giant(giant)
    if not is_number_in(place, 0, giant.size - 1):
        raise BadNumber("place")
    blocks = Blocks(giant.back)
    block, _ = put_giant(blocks, giant)
    return blocks.firsts[entries_of(blocks, block, place, place + 1)[0][0]]


def giant_part(giant, start, end):
    """The letters of a giant from start to before end."""
    want_giant(giant)
    if not is_number_in(start, 0, giant.size):
        raise BadNumber("start")
    if not is_number_in(end, start, giant.size):
        raise BadNumber("end")
    blocks = Blocks(giant.back)
    return giant_told(blocks, put_parts(blocks, [(put_giant(blocks, giant), start, end)]))


def giant_joined(one, other):
    """Two giants one behind the other."""
    want_giants(one, other)
    if one.size + other.size > MOST_GIANT:
        raise TooMany(MOST_GIANT)
    blocks = Blocks(one.back)
    return giant_told(blocks, put_words(blocks, [put_giant(blocks, one), put_giant(blocks, other)]))


def giant_power(giant, many):
    """A giant so many times behind itself."""
    want_giant(giant)
    if not is_number_in(many, 0, MOST_EXPONENT):
        raise BadNumber("many")
    if giant.size * many > MOST_GIANT:
        raise TooMany(MOST_GIANT)
    blocks = Blocks(giant.back)
    return giant_told(blocks, put_power(blocks, put_giant(blocks, giant), many))


def giant_undone(giant):
    """What undoes a giant."""
    want_giant(giant)
    return Giant(giant.back, giant.size, giant.turned, giant.nodes)


def alike_words(blocks, one, other):
    """With how many letters two blocks, or None for no letters, begin alike."""
    entries = [[] if block is None else [(block, 1)] for block in (one, other)]
    return alike_ahead(blocks, entries[0], entries[1])


def giant_apart(one, other):
    """With how many letters two giants begin alike, None if they are equal."""
    want_giants(one, other)
    if one == other:
        return None
    blocks = Blocks(one.back)
    return alike_words(blocks, put_giant(blocks, one)[0], put_giant(blocks, other)[0])
