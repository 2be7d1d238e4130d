"""How many lines it takes that the font is not known, and how many a probe saves (stage 18)."""

from anyfont.fewest import fewest_lines
from anyfont.goals import LINES
from anyfont.probing import LAYOUT, possible_answers
from anyfont.trees import least_cost, with_answer


def lines_after(knowledge, probes, seen, text, measure, d):
    """Return the least n for which a tree of a cost of at most d leads to at most n lines."""
    # With a line for each word every layout stands, so no more lines are ever needed.
    most = text.count(" ") + 1
    for n in range(1, most):
        cost = least_cost(knowledge, probes, seen, (LINES, text, measure, n))
        if cost is not None and cost <= d:
            return n
    return most


def price_of(knowledge, probes, seen, text, measure):
    """Return the fewest lines less the greatest number of lines that an agreeing font gives."""
    layouts = possible_answers(knowledge, probes, seen, (LAYOUT, text, measure))
    return fewest_lines(knowledge, probes, seen, text, measure) - max([len(layout) for layout in layouts])


def sure_saving(knowledge, probes, seen, text, measure, k):
    """Return by how many the fewest lines are surely less after the answer of a probe."""
    before = fewest_lines(knowledge, probes, seen, text, measure)
    after = [
        fewest_lines(knowledge, probes, with_answer(seen, k, answer), text, measure)
        for answer in possible_answers(knowledge, probes, seen, probes[k][0])
    ]
    # The least saving comes from the answer that leaves the most lines.
    return before - max(after)
