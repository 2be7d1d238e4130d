"""Random knowledges with probes and SEEN, and a test case that decides what agreeing fonts do by certificates."""

import itertools

from anyfont.probing import find_agreeing
from samples import random_text
from slow import all_rows, random_condition, random_knowledge, total
from slowlines import DecidingCase, compositions, slow_layout, slow_rows, slow_width, wide_row

# How many answers the questions of some probes may have.
SIZES = ((), (1,), (2,), (4,), (2, 2), (4, 2), (4, 4), (2, 1), (8, 2), (2, 2, 1), (2, 2, 2))


def slow_answers(question):
    return [False, True] if question[0] == 'claim' else compositions(question[1].count(' ') + 1)


def random_question(source, letters, size):
    """Return a question with so many answers."""
    if size == 2 and source.random() < 0.5:
        return 'claim', random_condition(source, len(letters) + 1, source.choice((None, (3,) * (len(letters) + 1))))
    text = random_text(source, letters, size.bit_length(), 3)
    return 'layout', text, source.randint(1, 12 * len(text))


def random_probes(source, letters):
    return tuple((random_question(source, letters, size), source.randint(1, 9)) for size in source.choice(SIZES))


def random_seen(source, probes, most=None):
    """Return SEEN with any answers, in any order."""
    indices = source.sample(range(len(probes)), source.randint(0, len(probes) if most is None else most))
    return tuple((k, source.choice(slow_answers(probes[k][0]))) for k in indices)


def random_agreeing(source, letters, facts):
    """Return a knowledge, probes and SEEN with which some font agrees."""
    while True:
        knowledge = random_knowledge(source, letters, source.randint(0, facts))
        probes = random_probes(source, letters)
        for _ in range(4):
            seen = random_seen(source, probes)
            if find_agreeing(knowledge, probes, seen) is not None:
                return knowledge, probes, seen


def orders(seen):
    return itertools.permutations(seen)


class AgreeingCase(DecidingCase):
    def rows_of_seen(self, knowledge, probes, seen):
        """Return the rows of all that was seen, in the order in which it was seen."""
        rows = []
        for k, answer in seen:
            question = probes[k][0]
            if question[0] == 'layout':
                rows += slow_rows(knowledge[0], question[1], question[2], answer)
            else:
                factors, bound, strict = question[1]
                rows.append(question[1] if answer else (tuple(-factor for factor in factors), -bound, not strict))
        return rows

    def answer(self, letters, question, font):
        if question[0] == 'layout':
            return slow_layout(letters, question[1], question[2], font)
        factors, bound, strict = question[1]
        found = total(factors, font[1])
        return found < bound * font[0] if strict else found <= bound * font[0]

    def agrees(self, knowledge, probes, seen, font):
        """Return whether a font agrees."""
        rows = all_rows(knowledge, ())
        if not all(self.answer(knowledge[0], ('claim', row), font) for row in rows):
            return False
        return all(self.answer(knowledge[0], probes[k][0], font) == answer for k, answer in seen)

    def right_answers(self, knowledge, probes, seen, question):
        """Return, ascending, the answers that agreeing fonts have, each decided by a font or a refutation."""
        rows = self.rows_of_seen(knowledge, probes, seen)
        found = []
        for answer in slow_answers(question):
            font = self.decide(knowledge, rows + self.rows_of_seen(knowledge, ((question, 1),), ((0, answer),)))
            if font is not None:
                self.assertEqual(self.answer(knowledge[0], question, font), answer)
                found.append(answer)
        return found

    def is_always_within(self, knowledge, probes, seen, string, measure):
        """Return whether a string is at most the measure wide for all agreeing fonts."""
        rows = self.rows_of_seen(knowledge, probes, seen) + [wide_row(knowledge[0], string, measure)]
        font = self.decide(knowledge, rows)
        if font is not None:
            self.assertGreater(slow_width(knowledge[0], string, font), measure)
        return font is None

    def standing(self, knowledge, probes, seen, text, measure):
        """Return, ascending, the layouts that stand."""
        within = {}
        found = []
        for layout in compositions(text.count(' ') + 1):
            long = [line for line in lines_of(text, layout) if ' ' in line]
            for line in long:
                if line not in within:
                    within[line] = self.is_always_within(knowledge, probes, seen, line, measure)
            if all(within[line] for line in long):
                found.append(layout)
        return found

    def random_case(self, source, letters, facts):
        """Return a knowledge, probes and SEEN, with which a font agrees or not."""
        probes = random_probes(source, letters)
        return random_knowledge(source, letters, facts), probes, random_seen(source, probes)


def lines_of(text, layout):
    """Return the lines of a text in a layout."""
    words = iter(text.split(' '))
    return [' '.join(itertools.islice(words, many)) for many in layout]
