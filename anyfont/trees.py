"""Trees, which reach goals by asking probes, and books, which keep them from being reached (stage 17)."""

from anyfont.goals import find_doubt, find_leaf, is_doubt, is_leaf
from anyfont.probing import answers, is_answer
from anyfont.values import is_integer, is_tuple_of

ASK = "ask"


def has_reached(knowledge, probes, seen, goal):
    """Return whether a goal is reached."""
    return find_doubt(knowledge, probes, seen, goal) is None


def find_tree(knowledge, probes, seen, goal, d):
    """Return a tree of a cost of at most d, or None."""
    search = Search(knowledge, probes, goal)
    first = in_order(seen)
    return search.tree(first) if search.is_within(first, d) else None


def find_book(knowledge, probes, seen, goal, d):
    """Return a book for d, or None."""
    search = Search(knowledge, probes, goal)
    first = in_order(seen)
    return None if search.is_within(first, d) else search.book(first, d)


def least_cost(knowledge, probes, seen, goal):
    """Return the least cost of a tree, or None if there is no tree."""
    return Search(knowledge, probes, goal).cost(in_order(seen))


def tree_cost(knowledge, probes, seen, goal, value):
    """Return the cost of a tree, or None if any value is no tree."""
    if not is_tuple_of(value, 3) or value[0] != ASK:
        return 0 if is_leaf(knowledge, probes, seen, goal, value) else None
    _, k, branches = value
    if not is_integer(k) or k not in unseen(probes, seen):
        return None
    question, price = probes[k]
    if not isinstance(branches, dict) or not are_all_answers(question, branches):
        return None
    costs = [
        tree_cost(knowledge, probes, with_answer(seen, k, answer), goal, branch)
        for answer, branch in branches.items()
    ]
    return None if None in costs else price + max(costs)


def are_all_answers(question, branches):
    """Return whether the keys of a dict are all answers of a question, and nothing else."""
    return len(branches) == len(answers(question)) and all([is_answer(question, key) for key in branches])


def is_book(knowledge, probes, seen, goal, d, value):
    """Return whether any value is a book for d."""
    offered = affordable(probes, seen, d)
    if not offered:
        return is_doubt(knowledge, probes, seen, goal, value)
    # A key may be True, which is equal to 1 and yet no index.
    if not isinstance(value, dict) or len(value) != len(offered):
        return False
    if not all([is_integer(key) and key in offered for key in value]):
        return False
    return all([is_reply(knowledge, probes, seen, goal, d, k, value[k]) for k in offered])


def is_reply(knowledge, probes, seen, goal, d, k, value):
    """Return whether any value is what a book for d holds for probe k."""
    question, price = probes[k]
    if not is_tuple_of(value, 2) or not is_answer(question, value[0]):
        return False
    answer, book = value
    return is_book(knowledge, probes, with_answer(seen, k, answer), goal, d - price, book)


def in_order(seen):
    """Return SEEN in ascending order of the indices."""
    return tuple(sorted(seen))


def with_answer(seen, k, answer):
    """Return SEEN with one more answer, in ascending order of the indices."""
    return in_order((*seen, (k, answer)))


def unseen(probes, seen):
    """Return the indices of the probes that are not in SEEN."""
    indices = [k for k, _ in seen]
    return [k for k in range(len(probes)) if k not in indices]


def affordable(probes, seen, d):
    """Return the indices of the probes that are not in SEEN and have a price of at most d."""
    return [k for k in unseen(probes, seen) if probes[k][1] <= d]


class Search:
    """A search for trees and books for one goal, which works out the cost for each SEEN once.

    SEEN stands in ascending order of the indices everywhere here.
    """

    def __init__(self, knowledge, probes, goal):
        self._known = knowledge
        self._probes = probes
        self._goal = goal
        self._costs = {}

    def cost(self, seen):
        """Return the least cost of a tree, or None if there is no tree."""
        if seen not in self._costs:
            self._costs[seen] = self._least_cost(seen)
        return self._costs[seen]

    def _least_cost(self, seen):
        if has_reached(self._known, self._probes, seen, self._goal):
            return 0
        costs = [self._cost_of_asking(seen, k) for k in unseen(self._probes, seen)]
        return min([cost for cost in costs if cost is not None], default=None)

    def _cost_of_asking(self, seen, k):
        costs = [self.cost(after) for after in self._after(seen, k).values()]
        return None if None in costs else self._probes[k][1] + max(costs)

    def _after(self, seen, k):
        """Return a dict from each answer of a probe to SEEN with it."""
        return {answer: with_answer(seen, k, answer) for answer in answers(self._probes[k][0])}

    def is_within(self, seen, d):
        """Return whether there is a tree of a cost of at most d."""
        cost = self.cost(seen)
        return cost is not None and cost <= d

    def tree(self, seen):
        """Return a tree of the least cost; there must be a tree."""
        # As each price is at least 1, no other tree than a leaf costs nothing.
        if self.cost(seen) == 0:
            return find_leaf(self._known, self._probes, seen, self._goal)
        costs = {k: self._cost_of_asking(seen, k) for k in unseen(self._probes, seen)}
        best = min([k for k in costs if costs[k] == self.cost(seen)])
        return ASK, best, {answer: self.tree(after) for answer, after in self._after(seen, best).items()}

    def book(self, seen, d):
        """Return a book for d; there must be no tree of a cost of at most d."""
        offered = affordable(self._probes, seen, d)
        if not offered:
            return find_doubt(self._known, self._probes, seen, self._goal)
        return {k: self._reply(seen, k, d - self._probes[k][1]) for k in offered}

    def _reply(self, seen, k, left):
        """Return the first answer to a probe after which what is left of the budget is too little, and a book."""
        after = self._after(seen, k)
        answer = min([answer for answer in after if not self.is_within(after[answer], left)])
        return answer, self.book(after[answer], left)
