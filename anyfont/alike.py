"""Texts that always break alike, and facts that are needless (stage 11)."""

from anyfont.breaking import first_states, font_with, next_is_beyond, states_after
from anyfont.claims import is_sure, opposite
from anyfont.knowledge import without_fact


def find_split(knowledge, text, measure, other, other_measure):
    """Return a fitting font for which two texts at their measures have different layouts, or None."""
    both = ((text.split(" "), measure), (other.split(" "), other_measure))
    # The states are those of both texts, so far as they break alike.
    states = first_states(knowledge, [])
    for _ in range(text.count(" ")):
        longer = []
        for state in states:
            wides = [next_is_beyond(knowledge[0], words, most, state[0]) for words, most in both]
            font = font_of_split(knowledge, state, wides)
            if font is not None:
                return font
            longer.extend(states_after(knowledge, state, wides))
        states = longer
    return None


def font_of_split(knowledge, state, wides):
    """Return a font of a state for which just one of two conditions holds, or None."""
    first, second = wides
    font = font_with(knowledge, state, [first, opposite(second)])
    if font is not None:
        return font
    return font_with(knowledge, state, [opposite(first), second])


def is_needless(knowledge, index):
    """Return whether all fonts that fit without a fact fit with it."""
    return is_sure(without_fact(knowledge, index), knowledge[1][index])


def trimmed(knowledge):
    """Return a knowledge without the facts that are needless, looked for from the last one to the first one."""
    left = knowledge
    for index in reversed(range(len(knowledge[1]))):
        if is_needless(left, index):
            left = without_fact(left, index)
    return left
