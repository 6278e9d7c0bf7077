"""Reasons: the lines that are told of a plan, and the branches that they leave."""

from whynone.bounds import bound_as_told, never_holds, opposite
from whynone.lessons import lesson_bounds
from whynone.plans import plan_as_told
from whynone.refusals import NOT_AS_TOLD, NOT_THERE, TOO_MANY_BOUNDS
from whynone.sums import sum_bound

MOST_BOUNDS = 512


class Reasons:
    """The plan that was begun and its branches, each a list of bounds."""

    def __init__(self):
        self.plan = None
        self.branches = []

    def begin(self, plan):
        if not plan_as_told(plan):
            return NOT_AS_TOLD
        self.plan = plan
        self.branches = [[]]
        return 0

    def cases(self, le):
        if not self.branches:
            return NOT_THERE
        if not bound_as_told(le, self.plan.unknowns):
            return NOT_AS_TOLD
        return self.branch_out([le, opposite(le)])

    def some(self, p):
        if not self.branches:
            return NOT_THERE
        if p >= len(self.plan.somes):
            return NOT_AS_TOLD
        return self.branch_out(self.plan.somes[p])

    def lesson(self, kind, p, q, by):
        if not self.branches:
            return NOT_THERE
        bounds = lesson_bounds(self.plan.facts, kind, p, q, by)
        if bounds is None:
            return NOT_AS_TOLD
        return self.branch_out(bounds)

    def add_up(self, recipe):
        """The line sum."""
        if not self.branches:
            return NOT_THERE
        bound = sum_bound(recipe, self.plan, self.branches[0])
        if bound is None:
            return NOT_AS_TOLD
        return self.branch_out([] if never_holds(bound) else [bound])

    def holds(self, k):
        """The number that is answered, then, where it's 0, the numbers of the bound."""
        if not self.branches or k >= len(self.branches[0]):
            return [NOT_THERE]
        bound = self.branches[0][k]
        return [0] + bound.c + [bound.d]

    def how_many(self):
        """The call open."""
        return len(self.branches)

    def branch_out(self, bounds):
        """Instead of the first branch as many as there are bounds, each with one of them behind."""
        first = self.branches[0]
        # Without bounds no branch grows: then a full one may go too.
        if bounds and len(first) >= MOST_BOUNDS:
            return TOO_MANY_BOUNDS
        self.branches = [first + [bound] for bound in bounds] + self.branches[1:]
        return 0 if self.branches else 1
