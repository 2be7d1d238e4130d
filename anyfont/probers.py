"""A prober, which sees answers of probes and forgets them (stage 19)."""

from anyfont.errors import InvalidIndex
from anyfont.fewest import fewest_lines
from anyfont.probererrors import AlreadySeen, InvalidAnswer, NoAgreement
from anyfont.probing import find_agreeing, is_answer, possible_answers, seen_conditions
from anyfont.solving import find_refutation
from anyfont.values import is_integer, is_integer_within

SEE = "see"
UNSEE = "unsee"


class Prober:
    """A knowledge with a fitting font, probes, and what was seen of them, with which some font always agrees."""

    def __init__(self, knowledge, probes):
        self._known = knowledge
        self._probes = probes
        self._seen = {}
        self._past = []

    def __eq__(self, other):
        return (
            isinstance(other, Prober)
            and self._known == other._known
            and self._probes == other._probes
            and self._seen == other._seen
        )

    def __len__(self):
        return len(self._seen)

    def see(self, index, answer):
        """Keep the answer of a probe as seen."""
        if not is_integer_within(index, 0, len(self._probes) - 1):
            raise InvalidIndex(index)
        if index in self._seen:
            raise AlreadySeen(index)
        if not is_answer(self._probes[index][0], answer):
            raise InvalidAnswer(answer)
        refutation = self._refutation_of({**self._seen, index: answer})
        if refutation is not None:
            raise NoAgreement(refutation)
        self._seen[index] = answer
        self._past.append((SEE, index, answer))

    def unsee(self, index):
        """Forget what was seen of a probe."""
        if not is_integer(index) or index not in self._seen:
            raise InvalidIndex(index)
        self._past.append((UNSEE, index, self._seen[index]))
        del self._seen[index]

    def undo(self):
        """Revert the last call of see or unsee that was not reverted; return it with its answer, or None."""
        if not self._past:
            return None
        call = self._past.pop()
        name, index, answer = call
        if name == SEE:
            del self._seen[index]
        else:
            self._seen[index] = answer
        return call

    def seen(self):
        """Return what was seen, in ascending order of the indices."""
        return in_order(self._seen)

    def font(self):
        """Return a font that agrees."""
        return find_agreeing(self._known, self._probes, self.seen())

    def answer_to(self, question):
        """Return the answer that all agreeing fonts have to a question, or None if there are several."""
        found = possible_answers(self._known, self._probes, self.seen(), question)
        return found[0] if len(found) == 1 else None

    def fewest(self, text, measure):
        """Return the fewest lines of a text."""
        return fewest_lines(self._known, self._probes, self.seen(), text, measure)

    def merged(self, other):
        """Return a new prober that has seen what at least one of two probers has seen."""
        for index in sorted(self._seen):
            if index in other._seen and self._seen[index] != other._seen[index]:
                raise AlreadySeen(index)
        both = {**self._seen, **other._seen}
        # All of it is tested ahead: a call of see would refute the part so far alone.
        refutation = self._refutation_of(both)
        if refutation is not None:
            raise NoAgreement(refutation)
        found = self.fresh()
        for index in sorted(both):
            found.see(index, both[index])
        return found

    def fresh(self):
        """Return a new prober with the same knowledge and probes, which has seen nothing."""
        return Prober(self._known, self._probes)

    def calls(self):
        """Return the list of the calls that were not reverted, each as undo returns it."""
        return list(self._past)

    def _refutation_of(self, answers):
        """Return a refutation if no font agrees with a dict of answers, or None."""
        return find_refutation(self._known, seen_conditions(self._known[0], self._probes, in_order(answers)))


def in_order(answers):
    """Return SEEN for a dict from indices to answers."""
    return tuple(sorted(answers.items()))
