"""The shortest texts of words."""

from gatewords.errors import TooMany
from gatewords.letters import rank, turned_back, want_back, want_word
from gatewords.lettertexts import letter_names

MOST_SHORT = 40


def commutator_texts(back, word, texts):
    """The texts [U,V] that read as a word, texts telling the least ones of its parts.

    Such a word is what undoes U, what undoes V, U and V.
    """
    half = len(word) // 2
    if len(word) % 2:
        return []
    found = []
    for size in range(half + 1):
        one = word[half:half + size]
        other = word[half + size:]
        if word[:half] == turned_back(back, one) + turned_back(back, other):
            found.append(f"[{texts[one]},{texts[other]}]")
    return found


def power_texts(word, bases):
    """The texts of a power, from 2 on, that read as a word."""
    found = []
    for size in range(1, len(word) // 2 + 1):
        part = word[:size]
        times = len(word) // size
        if part * times == word:
            found.append(f"{bases[part]}^{times}")
    return found


def least_base(back, names, word, texts):
    """The least text of a word that may have an exponent behind it."""
    if len(word) == 1:
        return names[word[0]]
    return min(commutator_texts(back, word, texts) + [f"({texts[word]})"], key=rank)


def least_text(back, names, word, texts, bases):
    """The least text of a word, those of its parts being told.

    Exponents with - are left out: what undoes an item has a text of as many
    signs, without one.
    """
    found = commutator_texts(back, word, texts) + power_texts(word, bases)
    if len(word) == 1:
        found.append(names[word[0]])
    for size in range(1, len(word)):
        found.append(texts[word[:size]] + texts[word[size:]])
    return min(found, key=rank)


def short_text(back, word):
    """The word text with the fewest signs, and the first of these, that reads as a word."""
    want_back(back)
    want_word(back, word)
    if len(word) > MOST_SHORT:
        raise TooMany(MOST_SHORT)
    names = letter_names(back)
    texts = {(): "1"}
    bases = {}
    for size in range(1, len(word) + 1):
        for start in range(len(word) - size + 1):
            part = word[start:start + size]
            if part not in texts:
                texts[part] = least_text(back, names, part, texts, bases)
                bases[part] = least_base(back, names, part, texts)
    return texts[word]
