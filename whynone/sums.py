"""Sums: bounds of a branch and bounds of the unknowns, added up and divided."""

from whynone.bounds import ROW, Bound, bound_as_told

MOST_PAIRS = 24
MOST_TIMES = 1000000
MOST_BY = 1000000


class Recipe:
    """by, the rows low and high, and times, a list of pairs: which and how many times."""

    def __init__(self, by, low, high, times):
        self.by = by
        self.low = low
        self.high = high
        self.times = times


def read_recipe(by, lists):
    """The recipe of by and the lists low, high and times."""
    flat = lists[2]
    times = [(flat[at], flat[at + 1]) for at in range(0, len(flat), 2)]
    return Recipe(by, lists[0], lists[1], times)


def row_as_told(row, unknowns):
    for k, count in enumerate(row):
        most = MOST_TIMES if k < unknowns else 0
        if count > most:
            return False
    return True


def times_as_told(times, size):
    if len(times) > MOST_PAIRS:
        return False
    return all([which < size and count <= MOST_TIMES for which, count in times])


def recipe_as_told(recipe, unknowns, size):
    """Whether the recipe is as told for a branch of size bounds."""
    if not 1 <= recipe.by <= MOST_BY:
        return False
    if not times_as_told(recipe.times, size):
        return False
    return row_as_told(recipe.low, unknowns) and row_as_told(recipe.high, unknowns)


def added(recipe, plan, branch):
    """All bounds of a recipe that is as told, each as many times as it tells, added up."""
    # The bounds of the unknowns: -xk is at most -lo, and xk is at most hi.
    c = [recipe.high[k] - recipe.low[k] for k in range(ROW)]
    d = sum([recipe.high[k] * plan.hi[k] - recipe.low[k] * plan.lo[k] for k in range(ROW)])
    for which, count in recipe.times:
        bound = branch[which]
        c = [total + count * factor for total, factor in zip(c, bound.c)]
        d += count * bound.d
    return Bound(c, d)


def divides(by, bound):
    return all([factor % by == 0 for factor in bound.c])


def divided(bound, by):
    """The bound divided by what divides its c; its d downwards, as a sum of whole numbers is whole."""
    return Bound([factor // by for factor in bound.c], bound.d // by)


def sum_bound(recipe, plan, branch):
    """The bound that comes of the recipe; None if the recipe or what comes of it isn't as told."""
    if not recipe_as_told(recipe, plan.unknowns, len(branch)):
        return None
    whole = added(recipe, plan, branch)
    if not divides(recipe.by, whole):
        return None
    bound = divided(whole, recipe.by)
    return bound if bound_as_told(bound, plan.unknowns) else None
