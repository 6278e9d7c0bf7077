"""Bounds: the sum of c[k] xk is at most d."""

ROW = 12
MOST_C = 1000
LEAST_D = -1000000
MOST_D = 999999


class Bound:
    """c, a row of twelve numbers, and d."""

    def __init__(self, c, d):
        self.c = c
        self.d = d


def read_bound(numbers):
    return Bound(numbers[:ROW], numbers[ROW])


def read_bounds(numbers):
    size = ROW + 1
    return [read_bound(numbers[start:start + size]) for start in range(0, len(numbers), size)]


def opposite(bound):
    """The bound that holds just when this one doesn't."""
    return Bound([-factor for factor in bound.c], -bound.d - 1)


def bound_as_told(bound, unknowns):
    for k, factor in enumerate(bound.c):
        most = MOST_C if k < unknowns else 0
        if abs(factor) > most:
            return False
    return LEAST_D <= bound.d <= MOST_D


def never_holds(bound):
    """Whether it can be read off the bound alone that no numbers keep it."""
    return bound.d < 0 and all([factor == 0 for factor in bound.c])


def bound_holds(bound, x):
    return sum([factor * number for factor, number in zip(bound.c, x)]) <= bound.d
