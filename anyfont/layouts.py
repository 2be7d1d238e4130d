"""Layouts: how many words stand on each line (stage 7)."""

from anyfont.breaking import layouts_given
from anyfont.claims import is_sure
from anyfont.solving import find_font
from anyfont.texts import lines
from anyfont.values import is_integer
from anyfont.widths import beyond, within


def conditions_of(letters, text, measure, layout):
    """Return the conditions that hold for exactly those fonts that give a text a layout."""
    words = text.split(" ")
    found = []
    first = 0
    for many in layout:
        behind = first + many
        if many > 1:
            found.append(within(letters, " ".join(words[first:behind]), measure))
        if behind < len(words):
            found.append(beyond(letters, " ".join(words[first:behind + 1]), measure))
        first = behind
    return found


def layouts(knowledge, text, measure):
    """Return the possible layouts of a text in ascending order."""
    return layouts_given(knowledge, [], text, measure)


def is_settled(knowledge, text, measure):
    """Return whether a text has at most one possible layout."""
    font = find_font(knowledge, [])
    if font is None:
        return True
    layout = layout_of(knowledge[0], text, measure, font)
    # Another layout is possible exactly if one of these conditions can fail.
    return all([is_sure(knowledge, condition) for condition in conditions_of(knowledge[0], text, measure, layout)])


def all_layouts(many):
    """Return the layouts of so many words in ascending order, possible or not."""
    found = [(first, *others) for first in range(1, many) for others in all_layouts(many - first)]
    return [*found, (many,)]


def is_layout(value, many):
    """Return whether any value is a layout of so many words."""
    return (
        isinstance(value, tuple)
        and all([is_integer(item) and item >= 1 for item in value])
        and sum(value) == many
    )


def layout_of(letters, text, measure, font):
    """Return the layout of a text for a font."""
    return tuple([len(line.split(" ")) for line in lines(letters, text, measure, font)])


def lines_of(text, layout):
    """Return the lines of a text in a layout."""
    words = text.split(" ")
    found = []
    first = 0
    for many in layout:
        found.append(" ".join(words[first:first + many]))
        first += many
    return found
