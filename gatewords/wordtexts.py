"""Texts of words."""

from gatewords.letters import MOST_LETTERS, turned_back, want_back, want_word
from gatewords.lettertexts import letter_names
from gatewords.signs import next_signs, read_text
from gatewords.wordreaders import POWER, ROUND, WordReader


def word_of_item(back, item):
    """The word that an item of a tree reads as."""
    if isinstance(item, int):
        return (item,)
    if item[0] == POWER:
        word = word_of_item(back, item[1])
        return word * item[2] if item[2] > 0 else turned_back(back, word) * -item[2]
    if item[0] == ROUND:
        return word_of_tree(back, item[1])
    one = word_of_tree(back, item[1])
    other = word_of_tree(back, item[2])
    return turned_back(back, one) + turned_back(back, other) + one + other


def word_of_tree(back, tree):
    """The word that a tree reads as."""
    letters = []
    for item in tree:
        letters.extend(word_of_item(back, item))
    return tuple(letters)


def word_of_text(back, text):
    """The word that a word text reads as."""
    want_back(back)
    reader = WordReader(letter_names(back), MOST_LETTERS)
    read_text(reader, text)
    return word_of_tree(back, reader.told())


def stretches(word):
    """The greatest stretches of one letter of a word: lists of a letter and how many there are."""
    found = []
    for letter in word:
        if found and found[-1][0] == letter:
            found[-1][1] += 1
        else:
            found.append([letter, 1])
    return found


def text_of_word(names, word):
    """The text of a word by its stretches of one letter."""
    parts = [names[letter] if many == 1 else f"{names[letter]}^{many}" for letter, many in stretches(word)]
    return "".join(parts) if parts else "1"


def word_text(back, word):
    """The text of a word by its stretches of one letter."""
    want_back(back)
    want_word(back, word)
    return text_of_word(letter_names(back), word)


def next_in_word(back, text):
    """Whether a beginning is a word text, and the signs that may stand behind it."""
    want_back(back)
    return next_signs(WordReader(letter_names(back), MOST_LETTERS), text)
