"""Tops of strings, with covers and limit fonts, and least measures (stage 16)."""

from anyfont.knowledge import fits, holds, is_font
from anyfont.layouts import all_layouts, lines_of
from anyfont.probing import seen_conditions
from anyfont.refutations import is_refutation
from anyfont.solving import find_highest, find_refutation
from anyfont.texts import counts, width
from anyfont.values import is_less
from anyfont.widths import beyond_fraction


def top_of(knowledge, probes, seen, string):
    """Return the least upper bound of the width of a string over all agreeing fonts, a fraction."""
    return width(knowledge[0], string, find_limit_font(knowledge, probes, seen, string))


def find_cover(knowledge, probes, seen, string, bound):
    """Return a cover of a string for a fraction, or None."""
    return find_refutation(knowledge, conditions_of_cover(knowledge[0], probes, seen, string, bound))


def is_cover(knowledge, probes, seen, string, bound, value):
    """Return whether any value is a cover of a string for a fraction."""
    return is_refutation(knowledge, conditions_of_cover(knowledge[0], probes, seen, string, bound), value)


def conditions_of_cover(letters, probes, seen, string, bound):
    """Return the conditions of SEEN and the row that a string is wider than a fraction."""
    return seen_conditions(letters, probes, seen) + [beyond_fraction(letters, string, bound)]


def find_limit_font(knowledge, probes, seen, string):
    """Return a limit font in which the width of a string is its top."""
    letters = knowledge[0]
    limits, conditions = limits_of(knowledge, probes, seen)
    return find_highest(limits, conditions, counts(letters, string)).font()


def is_limit_font(knowledge, probes, seen, value):
    """Return whether any value is a limit font."""
    limits, conditions = limits_of(knowledge, probes, seen)
    if not is_font(knowledge[0], value) or not fits(limits, value):
        return False
    return all([holds(condition, value) for condition in conditions])


def limits_of(knowledge, probes, seen):
    """Return a knowledge and the conditions of SEEN, in which none is strict."""
    letters, facts = knowledge
    return (letters, tuple(not_strict(facts))), not_strict(seen_conditions(letters, probes, seen))


def not_strict(conditions):
    """Return conditions as if none of them were strict."""
    return [(factors, bound, False) for factors, bound, _ in conditions]


def least_measure(knowledge, probes, seen, text, n):
    """Return the least fraction that is a measure for all fonts for some layout of at most n lines."""
    tops = tops_of_lines(knowledge, probes, seen, text)
    found = None
    for layout in all_layouts(text.count(" ") + 1):
        if len(layout) <= n:
            needed = greatest([tops[line] for line in lines_of(text, layout) if " " in line])
            if found is None or is_less(needed, found):
                found = needed
    return found


def tops_of_lines(knowledge, probes, seen, text):
    """Return a dict from each line of several words that a text may have to its top."""
    words = text.split(" ")
    found = {}
    for first in range(len(words)):
        for behind in range(first + 2, len(words) + 1):
            line = " ".join(words[first:behind])
            found[line] = top_of(knowledge, probes, seen, line)
    return found


def greatest(fractions):
    """Return the greatest of some fractions of at least 0, or 0 if there are none."""
    found = (0, 1)
    for fraction in fractions:
        if is_less(found, fraction):
            found = fraction
    return found
