"""A desk that keeps labels and warns of those that may need too many lines (stage 12)."""

from anyfont.errors import DeskFull, InvalidFact, InvalidIndex, InvalidLabel, InvalidName, NameInUse, NoFont
from anyfont.knowledge import MOST_FACTS, is_condition, without_fact
from anyfont.measures import is_safe
from anyfont.numbers import line_numbers
from anyfont.solving import has_font
from anyfont.texts import is_measure, is_text
from anyfont.values import is_integer_within, is_tuple_of

MOST_LABELS = 8
MOST_LETTERS_OF_NAME = 8
MOST_LINES = 8


def is_name(value):
    """Return whether any value is a name."""
    return (
        isinstance(value, str)
        and 1 <= len(value) <= MOST_LETTERS_OF_NAME
        and all(["a" <= letter <= "z" for letter in value])
    )


def is_label(letters, value):
    """Return whether any value is a label for the letters."""
    if not is_tuple_of(value, 3):
        return False
    text, measure, most = value
    return is_text(letters, text) and is_measure(measure) and is_integer_within(most, 1, MOST_LINES)


class Desk:
    """A knowledge with a fitting font, and labels by name."""

    def __init__(self, knowledge):
        self._known = knowledge
        self._labels = {}
        self._past = []

    def __eq__(self, other):
        return isinstance(other, Desk) and self._known == other._known and self._labels == other._labels

    def add(self, name, label):
        """Add a label under a new name."""
        if not is_name(name):
            raise InvalidName(name)
        if name in self._labels:
            raise NameInUse(name)
        if len(self._labels) >= MOST_LABELS:
            raise DeskFull(MOST_LABELS)
        if not is_label(self._known[0], label):
            raise InvalidLabel("a label is a text over the letters, a measure, and a number of lines from 1 to 8")
        self._remember("add")
        self._labels[name] = label

    def drop(self, name):
        """Remove a label."""
        self._check_name(name)
        self._remember("drop")
        del self._labels[name]

    def learn(self, fact):
        """Add a fact at the end."""
        letters, facts = self._known
        if not is_condition(letters, fact) or len(facts) >= MOST_FACTS:
            raise InvalidFact("a fact is a condition, and there are at most eight")
        more = (letters, (*facts, fact))
        if not has_font(more):
            raise NoFont("no font fits what is known together with this fact")
        self._remember("learn")
        self._known = more

    def forget(self, index):
        """Remove a fact."""
        if not is_integer_within(index, 0, len(self._known[1]) - 1):
            raise InvalidIndex(index)
        self._remember("forget")
        self._known = without_fact(self._known, index)

    def undo(self):
        """Revert the last call that changed the desk and was not reverted; return its name, or None."""
        if not self._past:
            return None
        call, known, labels = self._past.pop()
        self._known = known
        self._labels = labels
        return call

    def names(self):
        """Return the names of the labels in ascending order."""
        return sorted(self._labels)

    def knowledge(self):
        """Return what is known."""
        return self._known

    def label(self, name):
        """Return the label of a name."""
        self._check_name(name)
        return self._labels[name]

    def numbers(self, name):
        """Return the possible numbers of lines of a label."""
        text, measure, _ = self.label(name)
        return line_numbers(self._known, text, measure)

    def in_danger(self):
        """Return the names, ascending, of the labels that may have more lines than they should."""
        return [name for name in self.names() if self._may_be_too_long(self._labels[name])]

    def _may_be_too_long(self, label):
        text, measure, most = label
        return not is_safe(self._known, text, most, (measure, 1))

    def _check_name(self, name):
        if not isinstance(name, str) or name not in self._labels:
            raise InvalidName(name)

    def _remember(self, call):
        self._past.append((call, self._known, dict(self._labels)))
