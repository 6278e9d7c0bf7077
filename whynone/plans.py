"""Plans: unknowns with their bounds, facts and somes."""

from whynone.bounds import ROW, bound_as_told, bound_holds, read_bounds
from whynone.facts import each_made_once, fact_as_told, facts_hold, read_facts

MOST_NUMBER = 10000
MOST_FACTS = 16
MOST_SOMES = 32
MOST_BOUNDS_OF_SOME = 6


class Plan:
    """unknowns, the rows lo and hi, facts, and somes, each a list of bounds."""

    def __init__(self, unknowns, lo, hi, facts, somes):
        self.unknowns = unknowns
        self.lo = lo
        self.hi = hi
        self.facts = facts
        self.somes = somes


def read_plan(lists):
    """The plan of the lists plan, facts, and one for each some."""
    numbers = lists[0]
    lo = numbers[1:1 + ROW]
    hi = numbers[1 + ROW:1 + ROW + ROW]
    somes = [read_bounds(some) for some in lists[2:]]
    return Plan(numbers[0], lo, hi, read_facts(lists[1]), somes)


def range_as_told(low, high, most):
    return -most <= low <= high <= most


def ranges_as_told(plan):
    for k in range(ROW):
        most = MOST_NUMBER if k < plan.unknowns else 0
        if not range_as_told(plan.lo[k], plan.hi[k], most):
            return False
    return True


def facts_as_told(plan):
    if len(plan.facts) > MOST_FACTS:
        return False
    return all([fact_as_told(fact, plan.unknowns) for fact in plan.facts]) and each_made_once(plan.facts)


def some_as_told(some, unknowns):
    return len(some) <= MOST_BOUNDS_OF_SOME and all([bound_as_told(bound, unknowns) for bound in some])


def somes_as_told(plan):
    return len(plan.somes) <= MOST_SOMES and all([some_as_told(some, plan.unknowns) for some in plan.somes])


def plan_as_told(plan):
    if not 1 <= plan.unknowns <= ROW:
        return False
    return ranges_as_told(plan) and facts_as_told(plan) and somes_as_told(plan)


def within_ranges(plan, x):
    return all([plan.lo[k] <= x[k] <= plan.hi[k] for k in range(plan.unknowns)])


def some_holds(some, x):
    return any([bound_holds(bound, x) for bound in some])


def numbers_meet(plan, x):
    """Whether x meets a plan that is as told."""
    if not within_ranges(plan, x):
        return False
    return all([some_holds(some, x) for some in plan.somes]) and facts_hold(plan.facts, x)
