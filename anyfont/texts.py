"""Texts, widths of strings, and how a text breaks into lines (stage 2)."""

from anyfont.knowledge import sum_of_parts
from anyfont.values import is_integer_within, lowest_terms

MOST_WORDS = 8
MOST_LETTERS_OF_WORD = 9
MOST_MEASURE = 999


def is_text(letters, value):
    """Return whether any value is a text over the letters."""
    if not isinstance(value, str):
        return False
    words = value.split(" ")
    return len(words) <= MOST_WORDS and all([is_word(letters, word) for word in words])


def is_word(letters, string):
    """Return whether a string is a word over the letters."""
    return (
        1 <= len(string) <= MOST_LETTERS_OF_WORD
        and all([letter in letters for letter in string])
    )


def is_measure(value):
    """Return whether any value is a measure."""
    return is_integer_within(value, 1, MOST_MEASURE)


def counts(letters, string):
    """Return how often each sign occurs in a string: the space, then the letters."""
    return tuple([string.count(sign) for sign in " " + letters])


def width(letters, string, font):
    """Return the width of a string for a font, a fraction."""
    return lowest_terms(sum_of_parts(counts(letters, string), font), font[0])


def is_within(letters, string, measure, font):
    """Return whether a string is at most the measure wide."""
    return sum_of_parts(counts(letters, string), font) <= measure * font[0]


def lines(letters, text, measure, font):
    """Return the lines into which a text breaks at a measure."""
    first, *others = text.split(" ")
    found = [first]
    for word in others:
        longer = found[-1] + " " + word
        if is_within(letters, longer, measure, font):
            found[-1] = longer
        else:
            found.append(word)
    return found
