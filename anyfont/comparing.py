"""Which strings are wider for fitting fonts (stage 6)."""

from anyfont.solving import find_font
from anyfont.texts import counts


def never_wider(knowledge, string, other):
    """Return whether a string is at most as wide as another one for each fitting font."""
    return find_wider(knowledge, string, other) is None


def find_wider(knowledge, string, other):
    """Return a fitting font for which a string is wider than another one, or None."""
    return find_font(knowledge, [(excess(knowledge[0], other, string), 0, True)])


def widest(knowledge, strings):
    """Return the indices of the strings that are widest, perhaps beside others, for some fitting font."""
    found = []
    for index, string in enumerate(strings):
        none_wider = [(excess(knowledge[0], other, string), 0, False) for other in strings]
        if find_font(knowledge, none_wider) is not None:
            found.append(index)
    return found


def excess(letters, string, other):
    """Return the factors whose sum is the width of a string less that of another one."""
    return tuple([mine - yours for mine, yours in zip(counts(letters, string), counts(letters, other))])
