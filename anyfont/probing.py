"""Questions, probes, and what was seen of them (stage 13)."""

from anyfont.breaking import layouts_given
from anyfont.claims import opposite
from anyfont.knowledge import fits, holds, is_condition, is_font
from anyfont.layouts import all_layouts, conditions_of, is_layout, layout_of
from anyfont.solving import find_font
from anyfont.texts import is_measure, is_text
from anyfont.values import is_integer_within, is_tuple_of

CLAIM = "claim"
LAYOUT = "layout"
MOST_PROBES = 3
MOST_PRICE = 9
MOST_OUTCOMES = 30


def is_question(letters, value):
    """Return whether any value is a question for the letters."""
    if is_tuple_of(value, 2):
        return value[0] == CLAIM and is_condition(letters, value[1])
    return (
        is_tuple_of(value, 3)
        and value[0] == LAYOUT
        and is_text(letters, value[1])
        and is_measure(value[2])
    )


def answers(question):
    """Return the answers of a question in ascending order."""
    if question[0] == CLAIM:
        return [False, True]
    return all_layouts(words_of(question))


def words_of(question):
    """Return the number of words of the text of a question for a layout."""
    return question[1].count(" ") + 1


def is_answer(question, value):
    """Return whether any value is an answer of a question."""
    if question[0] == CLAIM:
        return isinstance(value, bool)
    return is_layout(value, words_of(question))


def answer_of(letters, question, font):
    """Return the answer of a font."""
    if question[0] == CLAIM:
        return holds(question[1], font)
    return layout_of(letters, question[1], question[2], font)


def answer_conditions(letters, question, answer):
    """Return the conditions that hold for exactly the fonts that have an answer."""
    if question[0] == LAYOUT:
        return conditions_of(letters, question[1], question[2], answer)
    return [question[1] if answer else opposite(question[1])]


def are_probes(letters, value):
    """Return whether any value is probes for the letters."""
    if not isinstance(value, tuple) or len(value) > MOST_PROBES:
        return False
    return all([is_probe(letters, item) for item in value]) and outcomes(value) <= MOST_OUTCOMES


def is_probe(letters, value):
    """Return whether any value is a question with a price."""
    return (
        is_tuple_of(value, 2)
        and is_question(letters, value[0])
        and is_integer_within(value[1], 1, MOST_PRICE)
    )


def outcomes(probes):
    """Return how many tuples of answers there are, each probe answered or not."""
    many = 1
    for question, _ in probes:
        many *= len(answers(question)) + 1
    return many


def is_seen(probes, value):
    """Return whether any value is SEEN for probes: answers of some of them, none twice."""
    if not isinstance(value, tuple) or not all([is_seen_answer(probes, item) for item in value]):
        return False
    return len(set([item[0] for item in value])) == len(value)


def is_seen_answer(probes, value):
    """Return whether any value is the index of a probe with an answer of its question."""
    if not is_tuple_of(value, 2) or not is_integer_within(value[0], 0, len(probes) - 1):
        return False
    return is_answer(probes[value[0]][0], value[1])


def seen_conditions(letters, probes, seen):
    """Return the conditions of SEEN, in ascending order of the index."""
    found = []
    for k, answer in sorted(seen):
        found.extend(answer_conditions(letters, probes[k][0], answer))
    return found


def find_agreeing(knowledge, probes, seen):
    """Return a font that agrees with SEEN, or None."""
    return find_font(knowledge, seen_conditions(knowledge[0], probes, seen))


def is_agreeing(knowledge, probes, seen, value):
    """Return whether any value is a font that agrees with SEEN."""
    letters = knowledge[0]
    if not is_font(letters, value) or not fits(knowledge, value):
        return False
    return all([holds(condition, value) for condition in seen_conditions(letters, probes, seen)])


def possible_answers(knowledge, probes, seen, question):
    """Return, ascending, the answers to a question that agreeing fonts have."""
    letters = knowledge[0]
    conditions = seen_conditions(letters, probes, seen)
    if question[0] == LAYOUT:
        return layouts_given(knowledge, conditions, question[1], question[2])
    return [
        answer for answer in answers(question)
        if find_font(knowledge, conditions + answer_conditions(letters, question, answer)) is not None
    ]
