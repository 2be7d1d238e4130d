"""Slow and independent ways to check certificates, straight from the points of the document.

Each of them takes any value. And values that are almost certificates, to try both ways with.
"""

from math import gcd

from agreeing import AgreeingCase, lines_of, slow_answers
from slow import all_rows
from slowlines import compositions, slow_width, wide_row

CASE = AgreeingCase()


def is_int(value, low, high):
    return type(value) is int and low <= value <= high


def is_tuple(value, size):
    return type(value) is tuple and len(value) == size


def slow_is_font(letters, value):
    if not is_tuple(value, 2) or not is_int(value[0], 1, value[0]) or not is_tuple(value[1], len(letters) + 1):
        return False
    unit, widths = value
    return all(is_int(width, 0, 20 * unit) for width in widths) and gcd(unit, *widths) == 1


def slow_is_agreeing(knowledge, probes, seen, value):
    return slow_is_font(knowledge[0], value) and CASE.agrees(knowledge, probes, seen, value)


def slow_is_answer(question, value):
    return any(kind_and_value(value) == kind_and_value(answer) for answer in slow_answers(question))


def kind_and_value(value):
    """Return what tells values apart that are equal but of another kind, as True and 1."""
    if isinstance(value, (tuple, list)):
        return type(value), [kind_and_value(item) for item in value]
    return type(value), value


def slow_is_refutation(knowledge, conditions, value):
    rows = all_rows(knowledge, conditions)
    if not is_tuple(value, len(rows)) or not all(type(item) is int and item >= 0 for item in value):
        return False
    for sign in range(len(knowledge[0]) + 1):
        if sum(item * row[0][sign] for item, row in zip(value, rows)) != 0:
            return False
    bound = sum(item * row[1] for item, row in zip(value, rows))
    return bound < 0 or bound == 0 and any(item and row[2] for item, row in zip(value, rows))


def document_rows(knowledge, probes, seen):
    """Return the conditions of SEEN in the order of the document."""
    letters = knowledge[0]
    rows = []
    for k, answer in sorted(seen):
        rows += answer_rows(letters, probes[k][0], answer)
    return rows


def answer_rows(letters, question, answer):
    """Return the conditions of an answer in the order of the document."""
    if question[0] == 'claim':
        return CASE.rows_of_seen((letters, ()), ((question, 1),), ((0, answer),))
    _, text, measure = question
    words = text.split(' ')
    rows = []
    first = 0
    for line in lines_of(text, answer):
        behind = first + line.count(' ') + 1
        if ' ' in line:
            factors, bound, _ = wide_row(letters, line, measure)
            rows.append((tuple(-factor for factor in factors), -bound, False))
        if behind < len(words):
            rows.append(wide_row(letters, ' '.join(words[first:behind + 1]), measure))
        first = behind
    return rows


def slow_is_showing(knowledge, probes, seen, text, measure, layout, value):
    if not is_tuple(value, len(layout)):
        return False
    for line, entry in zip(lines_of(text, layout), value):
        rows = document_rows(knowledge, probes, seen) + [wide_row(knowledge[0], line, measure)]
        if not (slow_is_refutation(knowledge, rows, entry) if ' ' in line else entry is None):
            return False
    return True


def slow_are_bars(knowledge, probes, seen, text, measure, value):
    words = text.split(' ')
    if type(value) is not tuple:
        return False
    least = 0
    for bar in value:
        if not is_tuple(bar, 3) or not is_int(bar[0], least, len(words) - 1):
            return False
        first, last, font = bar
        if not is_int(last, first + 1, len(words) - 1) or not slow_is_agreeing(knowledge, probes, seen, font):
            return False
        if slow_width(knowledge[0], ' '.join(words[first:last + 1]), font) <= measure:
            return False
        least = last
    return True


def slow_is_limit_font(knowledge, probes, seen, value):
    if not slow_is_font(knowledge[0], value):
        return False
    rows = list(knowledge[1]) + document_rows(knowledge, probes, seen)
    return all(
        sum(factor * width for factor, width in zip(factors, value[1])) <= bound * value[0]
        for factors, bound, _ in rows
    )


def slow_is_leaf(knowledge, probes, seen, goal, value):
    if not is_tuple(value, 3):
        return False
    kind, found, proof = value
    if goal[0] == 'lines':
        if kind != 'lines' or type(found) is not tuple or not all(type(item) is int for item in found):
            return False
        if found not in compositions(goal[1].count(' ') + 1) or len(found) > goal[3]:
            return False
        return slow_is_showing(knowledge, probes, seen, *goal[1:3], found, proof)
    if kind != 'known' or not slow_is_answer(goal, found) or type(proof) is not dict:
        return False
    if not all(slow_is_answer(goal, key) for key in proof):
        return False
    if sorted(proof) != [answer for answer in slow_answers(goal) if answer != found]:
        return False
    rows = document_rows(knowledge, probes, seen)
    return all(
        slow_is_refutation(knowledge, rows + answer_rows(knowledge[0], goal, answer), refutation)
        for answer, refutation in proof.items()
    )


def slow_tree_cost(knowledge, probes, seen, goal, value):
    if slow_is_leaf(knowledge, probes, seen, goal, value):
        return 0
    if not is_tuple(value, 3) or value[0] != 'ask' or not is_int(value[1], 0, len(probes) - 1):
        return None
    _, k, branches = value
    if k in dict(seen) or type(branches) is not dict:
        return None
    question, price = probes[k]
    if not all(slow_is_answer(question, key) for key in branches) or sorted(branches) != slow_answers(question):
        return None
    costs = []
    for answer, branch in branches.items():
        costs.append(slow_tree_cost(knowledge, probes, seen + ((k, answer),), goal, branch))
    return None if None in costs else price + max(costs)


def slow_is_book(knowledge, probes, seen, goal, d, value):
    offered = [k for k in range(len(probes)) if k not in dict(seen) and probes[k][1] <= d]
    if not offered:
        if goal[0] == 'lines':
            return slow_are_bars(knowledge, probes, seen, *goal[1:3], value) and len(value) == goal[3]
        return (
            is_tuple(value, 2)
            and all(slow_is_agreeing(knowledge, probes, seen, font) for font in value)
            and CASE.answer(knowledge[0], goal, value[0]) != CASE.answer(knowledge[0], goal, value[1])
        )
    if type(value) is not dict or not all(type(key) is int for key in value) or sorted(value) != offered:
        return False
    for k, entry in value.items():
        question, price = probes[k]
        if not is_tuple(entry, 2) or not slow_is_answer(question, entry[0]):
            return False
        if not slow_is_book(knowledge, probes, seen + ((k, entry[0]),), goal, d - price, entry[1]):
            return False
    return True


def variants(value):
    """Return values that are made by one small change anywhere in a value."""
    found = [None, [value], (value,), {0: value}]
    if type(value) is tuple:
        found += [list(value), value + (0,), value + (None,), value[::-1]]
        found += [value[:place] + value[place + 1:] for place in range(len(value))]
        found += [value[:place] + value[place:place + 1] + value[place:] for place in range(len(value))]
        for place, item in enumerate(value):
            found += [value[:place] + (other,) + value[place + 1:] for other in variants(item)]
    elif type(value) is dict:
        found += [list(value), tuple(value.items()), {**value, 'x': None}, {**value, 9: None}]
        for key in value:
            others = {other: value[other] for other in value if other != key}
            found.append(others)
            found += [{**others, other: value[key]} for other in variants(key) if is_key(other)]
            found += [{**others, key: other} for other in variants(value[key])]
            found += [{**value, key: value[other]} for other in others]
    elif type(value) in (int, bool):
        found += [not value, int(value), bool(value), value + 1, value - 1, 2 * value, str(value)]
    elif type(value) is str:
        found += ['', value + 'x', value.upper(), 'known', 'lines', 'ask', 'see', 'unsee']
    else:
        found += [0, (), {}, 'None']
    return found


def is_key(value):
    try:
        hash(value)
    except TypeError:
        return False
    return True
