"""Writes calls in the form of the interface, and reads what is answered."""

from whynone.desk import answers


def row(*numbers):
    """A row of twelve: the numbers told, and 0 behind them."""
    return list(numbers) + [0] * (12 - len(numbers))


def bound(c, d):
    return row(*c) + [d]


def unit(k, factor=1):
    c = row()
    c[k] = factor
    return c


def plan(unknowns=2, lo=None, hi=None, facts=(), somes=()):
    """The lists of a plan; unknowns from -10 to 10 where nothing else is told."""
    told = min(unknowns, 12)
    lo = row(*[-10] * told) if lo is None else row(*lo)
    hi = row(*[10] * told) if hi is None else row(*hi)
    flat = [number for fact in facts for number in fact]
    lists = [[unknowns] + lo + hi, flat]
    return lists + [[number for b in some for number in b] for some in somes]


def call(number, wholes=(), lists=()):
    told = [number, len(wholes)] + list(wholes) + [len(lists)]
    for numbers in lists:
        told += [len(numbers)] + list(numbers)
    return told


def meets(lists, x):
    return call(0, (), [row(*x)] + lists)


def begin(lists):
    return call(1, (), lists)


def cases(le):
    return call(2, (), [le])


def some(p):
    return call(3, (p,))


def joined(calls):
    return [number for one in calls for number in one]


def ask(*calls):
    """What is answered to each call: a number each."""
    told = answers(joined(calls))
    if len(told) != 2 * len(calls) or told[::2] != [1] * len(calls):
        raise AssertionError(f"not one number for each call: {told}")
    return told[1::2]


def met(lists, *x):
    """The answer of meets for one row of numbers."""
    return ask(meets(lists, x))[0]
