"""Names of letters."""

from gatewords.letters import want_back

SMALL = "abcdefghijkl"


def letter_names(back):
    """The string of the names of the letters, capitals for what undoes earlier ones."""
    want_back(back)
    names = ""
    used = 0
    for letter, undoing in enumerate(back):
        if undoing >= letter:
            names += SMALL[used]
            used += 1
        else:
            names += names[undoing].upper()
    return names
