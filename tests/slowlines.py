"""Slow and independent ways to break texts, and a test case that decides by certificates alone."""

import itertools
import unittest
from fractions import Fraction

from anyfont.knowledge import fits, holds, is_font
from anyfont.refutations import is_refutation
from anyfont.solving import find_font, find_refutation


def compositions(many):
    """Return all tuples of positive integers that add up to many, in ascending order."""
    found = []
    for breaks in itertools.product((False, True), repeat=many - 1):
        layout = [1]
        for is_break in breaks:
            if is_break:
                layout.append(1)
            else:
                layout[-1] += 1
        found.append(tuple(layout))
    return sorted(found)


def slow_width(letters, string, font):
    return sum((Fraction(font[1][(' ' + letters).index(sign)], font[0]) for sign in string), Fraction(0))


def slow_layout(letters, text, measure, font):
    """Return the layout of a text for a font; the measure may be a fraction."""
    layout = []
    line = None
    for word in text.split(' '):
        if line is not None and slow_width(letters, line + ' ' + word, font) <= measure:
            line += ' ' + word
            layout[-1] += 1
        else:
            line = word
            layout.append(1)
    return tuple(layout)


def wide_row(letters, string, measure):
    """Return the row that a string is wider than a measure, which may be a fraction."""
    measure = Fraction(measure)
    factors = tuple(-measure.denominator * string.count(sign) for sign in ' ' + letters)
    return factors, -measure.numerator, True


def narrow_row(letters, string, measure):
    factors, bound, _ = wide_row(letters, string, measure)
    return tuple(-factor for factor in factors), -bound, False


def slow_rows(letters, text, measure, layout):
    """Return rows that hold for exactly the fonts that give the layout; the measure may be a fraction.

    Unlike the conditions of the document, these are for each word after the first
    one, and say whether the line before it would be too wide with it.
    """
    words = text.split(' ')
    rows = []
    first = 0
    for many in layout:
        for behind in range(first + 1, min(first + many + 1, len(words))):
            line = ' '.join(words[first:behind + 1])
            row = wide_row if behind == first + many else narrow_row
            rows.append(row(letters, line, measure))
        first += many
    return rows


class DecidingCase(unittest.TestCase):
    def decide(self, knowledge, conditions):
        """Return a font that fits and for which all conditions hold, or None; check the proof of either."""
        font = find_font(knowledge, conditions)
        if font is None:
            self.assertTrue(is_refutation(knowledge, conditions, find_refutation(knowledge, conditions)))
        else:
            self.assertTrue(is_font(knowledge[0], font))
            self.assertTrue(fits(knowledge, font))
            self.assertTrue(all(holds(condition, font) for condition in conditions))
        return font

    def right_layouts(self, knowledge, text, measure, conditions=()):
        """Return the layouts that a text has, ascending; the measure may be a fraction."""
        letters = knowledge[0]
        found = []
        for layout in compositions(len(text.split(' '))):
            font = self.decide(knowledge, [*conditions, *slow_rows(letters, text, measure, layout)])
            if font is not None:
                self.assertEqual(slow_layout(letters, text, measure, font), layout)
                found.append(layout)
        return found
