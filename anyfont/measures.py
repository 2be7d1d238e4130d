"""Measures at which a text always has at most so many lines (stage 9).

A text has more than k lines for a font exactly if there is a CHAIN of k + 1 of its
words, in their order, such that the string from each word of the chain to the next
one, both included, is wider than the measure. (The words that begin the first k + 1
lines are such a chain. And if there is a chain, a line that begins with one of its
words at the latest ends ahead of the next one, so there is a line for each of them.)
A chain may be taken to begin with the first word and to end with the last one, as
this only makes its strings wider.
"""

from itertools import combinations

from anyfont.claims import highest
from anyfont.solving import find_font
from anyfont.texts import counts
from anyfont.values import is_less
from anyfont.widths import beyond_fraction


def is_safe(knowledge, text, k, measure):
    """Return whether a text has at most k lines for each fitting font; the measure is a fraction."""
    for strings in strings_of_chains(text, k):
        if find_font(knowledge, [beyond_fraction(knowledge[0], string, measure) for string in strings]) is not None:
            return False
    return True


def safe_measure(knowledge, text, k):
    """Return the smallest fraction such that each measure that is at least as great is safe for k lines."""
    found = (0, 1)
    for strings in strings_of_chains(text, k):
        numerator, denominator, _ = highest_of_narrowest(knowledge, strings)
        if is_less(found, (numerator, denominator)):
            found = (numerator, denominator)
    return found


def strings_of_chains(text, k):
    """Return, for each chain of k + 1 words, the list of the strings from each of its words to the next."""
    words = text.split(" ")
    last = len(words) - 1
    if k > last:
        return []
    return [strings_between(words, (0, *inner, last)) for inner in inner_words(last, k - 1)]


def inner_words(last, many):
    """Return all choices of so many words between the first one and the last one."""
    return list(combinations(range(1, last), many))


def strings_between(words, chain):
    """Return the list of the strings from each word of a chain to the next one, both included."""
    return [" ".join(words[first:behind + 1]) for first, behind in zip(chain, chain[1:])]


def highest_of_narrowest(knowledge, strings):
    """Return (numerator, denominator, is_reached) for the least upper bound of the least width of strings.

    For this, facts about one more letter are added: a row of these letters, as many
    as the first string has signs, is never wider than any of the strings. Such a
    letter, with a width from 0 to 20, can make the row as wide as the narrowest one.
    """
    letters, facts = knowledge
    many = len(strings[0])
    kept = [((*factors, 0), bound, strict) for factors, bound, strict in facts]
    added = [((*[-count for count in counts(letters, string)], many), 0, False) for string in strings]
    # Only the number of the letters matters here, not which they are.
    return highest((letters + "?", (*kept, *added)), (0,) * (len(letters) + 1) + (many,))
