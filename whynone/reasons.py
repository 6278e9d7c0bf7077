"""Reasons: the lines that are told of a plan, and the branches that they leave."""

from whynone.bounds import bound_as_told, opposite
from whynone.plans import plan_as_told
from whynone.refusals import NO_BRANCH, NOT_AS_TOLD, TOO_MANY_BOUNDS

MOST_BOUNDS = 512


class Reasons:
    """The plan that was begun and its branches, each a list of bounds."""

    def __init__(self):
        self.plan = None
        self.branches = []

    def begin(self, plan):
        if not plan_as_told(plan):
            return NOT_AS_TOLD
        self.plan = plan
        self.branches = [[]]
        return 0

    def cases(self, le):
        if not self.branches:
            return NO_BRANCH
        if not bound_as_told(le, self.plan.unknowns):
            return NOT_AS_TOLD
        return self.branch_out([le, opposite(le)])

    def some(self, p):
        if not self.branches:
            return NO_BRANCH
        if p >= len(self.plan.somes):
            return NOT_AS_TOLD
        return self.branch_out(self.plan.somes[p])

    def branch_out(self, bounds):
        """Instead of the first branch as many as there are bounds, each with one of them behind."""
        first = self.branches[0]
        # Without bounds no branch grows: then a full one may go too.
        if bounds and len(first) >= MOST_BOUNDS:
            return TOO_MANY_BOUNDS
        self.branches = [first + [bound] for bound in bounds] + self.branches[1:]
        return 0 if self.branches else 1
