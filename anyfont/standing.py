"""Layouts whose lines fit in all agreeing fonts (stage 14)."""

from anyfont.layouts import lines_of
from anyfont.probing import seen_conditions
from anyfont.refutations import is_refutation
from anyfont.solving import find_font, find_refutation
from anyfont.values import is_tuple_of
from anyfont.widths import beyond


def find_showing(knowledge, probes, seen, text, measure, layout):
    """Return a showing that a layout stands, or None if it does not."""
    found = []
    for conditions in conditions_by_line(knowledge[0], probes, seen, text, measure, layout):
        entry = None
        if conditions is not None:
            entry = find_refutation(knowledge, conditions)
            if entry is None:
                return None
        found.append(entry)
    return tuple(found)


def is_showing(knowledge, probes, seen, text, measure, layout, value):
    """Return whether any value is a showing that a layout stands."""
    by_line = conditions_by_line(knowledge[0], probes, seen, text, measure, layout)
    return (
        is_tuple_of(value, len(by_line))
        and all([shows_line(knowledge, conditions, entry) for conditions, entry in zip(by_line, value)])
    )


def shows_line(knowledge, conditions, value):
    """Return whether any value is the entry of a showing for a line with such conditions, or without any."""
    if conditions is None:
        return value is None
    return is_refutation(knowledge, conditions, value)


def find_misfit(knowledge, probes, seen, text, measure, layout):
    """Return the index of a line of several words and an agreeing font for which it is too wide, or None."""
    by_line = conditions_by_line(knowledge[0], probes, seen, text, measure, layout)
    for index, conditions in enumerate(by_line):
        if conditions is not None:
            font = find_font(knowledge, conditions)
            if font is not None:
                return index, font
    return None


def conditions_by_line(letters, probes, seen, text, measure, layout):
    """Return for each line None if it has one word; else the conditions of SEEN and that the line is too wide."""
    conditions = seen_conditions(letters, probes, seen)
    return [
        conditions + [beyond(letters, line, measure)] if " " in line else None
        for line in lines_of(text, layout)
    ]
