"""Writes calls in the form of the interface, and reads what is answered."""

from whynone.desk import answers


def row(*numbers):
    """A row of twelve: the numbers told, and 0 behind them."""
    return list(numbers) + [0] * (12 - len(numbers))


def bound(c, d):
    return row(*c) + [d]


def unit(k, factor=1):
    c = row()
    c[k] = factor
    return c


def plan(unknowns=2, lo=None, hi=None, facts=(), somes=()):
    """The lists of a plan; unknowns from -10 to 10 where nothing else is told."""
    told = min(unknowns, 12)
    lo = row(*[-10] * told) if lo is None else row(*lo)
    hi = row(*[10] * told) if hi is None else row(*hi)
    flat = [number for fact in facts for number in fact]
    lists = [[unknowns] + lo + hi, flat]
    return lists + [[number for b in some for number in b] for some in somes]


def call(number, wholes=(), lists=()):
    told = [number, len(wholes)] + list(wholes) + [len(lists)]
    for numbers in lists:
        told += [len(numbers)] + list(numbers)
    return told


def meets(lists, x):
    return call(0, (), [row(*x)] + lists)


def begin(lists):
    return call(1, (), lists)


def cases(le):
    return call(2, (), [le])


def some(p):
    return call(3, (p,))


def lesson(kind, p, q, by=0):
    return call(4, (kind, p, q, by))


def add_up(times=(), low=(), high=(), by=1):
    """The call sum; times is pairs, which and how many times."""
    return call(5, (by,), [row(*low), row(*high), [number for pair in times for number in pair]])


def holds(k):
    return call(6, (k,))


OPEN = call(7)


def joined(calls):
    return [number for one in calls for number in one]


def tell(*calls):
    """What is answered to each call: a list of numbers each."""
    told = answers(joined(calls))
    found = []
    while told:
        found.append(told[1:1 + told[0]])
        told = told[1 + told[0]:]
    if len(found) != len(calls):
        raise AssertionError(f"not one answer for each call: {found}")
    return found


def ask(*calls):
    """What is answered to each call: a number each."""
    told = tell(*calls)
    if any(len(numbers) != 1 for numbers in told):
        raise AssertionError(f"not one number for each call: {told}")
    return [numbers[0] for numbers in told]


def met(lists, *x):
    """The answer of meets for one row of numbers."""
    return ask(meets(lists, x))[0]


def branches(lists, *lines):
    """All branches behind the lines, as open and holds tell them."""
    # One more some, without bounds, to take away the branches that were seen.
    asked = [begin(lists + [[]]), *lines]
    drop = some(len(lists) - 2)
    count = tell(*asked, OPEN)[-1][0]
    # A line puts one bound behind a branch at most.
    looked = [holds(k) for k in range(len(lines) + 1)]
    told = tell(*asked, *(looked + [drop]) * count, OPEN)[len(asked):]
    if told[-1] != [0]:
        raise AssertionError(f"not as many branches as open tells: {told}")
    step = len(looked) + 1
    return [[seen[1:] for seen in told[at:at + step - 1] if seen != [-2]] for at in range(0, count * step, step)]
