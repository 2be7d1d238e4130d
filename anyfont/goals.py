"""What shows that a goal is reached, and what shows that it is not.

A DOUBT is what a book ends with: for a question two agreeing fonts with different
answers, for ('lines', text, measure, n) just n bars. For each goal and each SEEN
exactly one of a leaf and a doubt exists.
"""

from anyfont.claims import opposite
from anyfont.fewest import are_bars, find_bars, find_standing
from anyfont.layouts import is_layout
from anyfont.probing import answer_conditions, answer_of, answers, is_agreeing, is_answer, seen_conditions
from anyfont.refutations import is_refutation
from anyfont.solving import find_font, find_refutation
from anyfont.standing import find_showing, is_showing
from anyfont.values import is_tuple_of

LINES = "lines"
KNOWN = "known"


def find_doubt(knowledge, probes, seen, goal):
    """Return a doubt, or None if the goal is reached."""
    if goal[0] == LINES:
        _, text, measure, n = goal
        return find_bars(knowledge, probes, seen, text, measure, n)
    return find_two_fonts(knowledge, probes, seen, goal)


def find_two_fonts(knowledge, probes, seen, question):
    """Return two agreeing fonts with different answers to a question, or None."""
    letters = knowledge[0]
    conditions = seen_conditions(letters, probes, seen)
    font = find_font(knowledge, conditions)
    if font is None:
        return None
    # Another answer is possible exactly if one of these conditions can fail.
    for condition in answer_conditions(letters, question, answer_of(letters, question, font)):
        other = find_font(knowledge, conditions + [opposite(condition)])
        if other is not None:
            return font, other
    return None


def is_doubt(knowledge, probes, seen, goal, value):
    """Return whether any value is a doubt."""
    if goal[0] == LINES:
        _, text, measure, n = goal
        return is_tuple_of(value, n) and are_bars(knowledge, probes, seen, text, measure, value)
    if not is_tuple_of(value, 2) or not all([is_agreeing(knowledge, probes, seen, font) for font in value]):
        return False
    first, second = [answer_of(knowledge[0], goal, font) for font in value]
    return first != second


def find_leaf(knowledge, probes, seen, goal):
    """Return a leaf for a goal that is reached."""
    if goal[0] == LINES:
        _, text, measure, n = goal
        layout = find_standing(knowledge, probes, seen, text, measure, n)
        return LINES, layout, find_showing(knowledge, probes, seen, text, measure, layout)
    return known_leaf(knowledge, probes, seen, goal)


def known_leaf(knowledge, probes, seen, question):
    """Return a leaf for a question that is reached."""
    letters = knowledge[0]
    conditions = seen_conditions(letters, probes, seen)
    font = find_font(knowledge, conditions)
    # Where no font agrees, any answer will do.
    known = answers(question)[0] if font is None else answer_of(letters, question, font)
    refutations = {
        answer: find_refutation(knowledge, conditions + answer_conditions(letters, question, answer))
        for answer in answers(question) if answer != known
    }
    return KNOWN, known, refutations


def is_leaf(knowledge, probes, seen, goal, value):
    """Return whether any value is a leaf."""
    if not is_tuple_of(value, 3):
        return False
    kind, found, proof = value
    if goal[0] == LINES:
        _, text, measure, n = goal
        return (
            kind == LINES
            and is_layout(found, text.count(" ") + 1)
            and len(found) <= n
            and is_showing(knowledge, probes, seen, text, measure, found, proof)
        )
    return kind == KNOWN and is_answer(goal, found) and are_refutations(knowledge, probes, seen, goal, found, proof)


def are_refutations(knowledge, probes, seen, question, known, value):
    """Return whether any value is a dict from each answer but the one that is known to a refutation of it."""
    if not isinstance(value, dict):
        return False
    others = [answer for answer in answers(question) if answer != known]
    # Keys may be equal to answers and yet be none, as 0 and 1 are for a claim.
    if len(value) != len(others) or not all([is_answer(question, key) and key in others for key in value]):
        return False
    letters = knowledge[0]
    conditions = seen_conditions(letters, probes, seen)
    return all([
        is_refutation(knowledge, conditions + answer_conditions(letters, question, answer), refutation)
        for answer, refutation in value.items()
    ])
