"""Facts: what unknown functions make of the unknowns, and what stands in tables."""

OF_ONE = 1
OF_TWO = 2
STANDS = 3
MADE = 4

FACT_SIZE = 5
FUNCTIONS = 4
TABLES = 6


class Fact:
    """kind, f, a, b, r."""

    def __init__(self, kind, f, a, b, r):
        self.kind = kind
        self.f = f
        self.a = a
        self.b = b
        self.r = r


def read_fact(numbers):
    return Fact(numbers[0], numbers[1], numbers[2], numbers[3], numbers[4])


def read_facts(numbers):
    return [read_fact(numbers[start:start + FACT_SIZE]) for start in range(0, len(numbers), FACT_SIZE)]


def f_and_b_as_told(fact, unknowns):
    if fact.kind == OF_ONE:
        return fact.f < FUNCTIONS and fact.b == 0
    if fact.kind == OF_TWO:
        return fact.f < FUNCTIONS and fact.b < unknowns
    if fact.kind == STANDS:
        return fact.f < TABLES and fact.b == 0
    if fact.kind == MADE:
        return fact.f < TABLES and fact.b < fact.f
    return False


def fact_as_told(fact, unknowns):
    return fact.a < unknowns and fact.r < unknowns and f_and_b_as_told(fact, unknowns)


def made_tables(facts):
    """For each table that is made of another: the fact of kind 4 that tells how."""
    made = {}
    for fact in facts:
        if fact.kind == MADE:
            made[fact.f] = fact
    return made


def way_up(made, table):
    """The facts of kind 4 of the table, of the table that it's made of, and so on."""
    way = []
    while table in made:
        way.append(made[table])
        table = made[table].b
    return way


def each_made_once(facts):
    return len(made_tables(facts)) == len([fact for fact in facts if fact.kind == MADE])


def table_that_decides(made, table, at, x):
    """The first table of the way up in which nothing is taken over at the number at."""
    while table in made and x[made[table].a] != at:
        table = made[table].b
    return table


def place_of(fact, made, x):
    """What the fact tells xr of: a function at its numbers, or a table at one number."""
    at = x[fact.a]
    if fact.kind == OF_ONE:
        return (OF_ONE, fact.f, at, 0)
    if fact.kind == OF_TWO:
        return (OF_TWO, fact.f, at, x[fact.b])
    # A fact of kind 4 is a fact of kind 3 too: in the table that it makes, at xa, stands xr.
    return (STANDS, table_that_decides(made, fact.f, at, x), at, 0)


def facts_hold(facts, x):
    """There are such functions and tables just if no place is told two numbers."""
    made = made_tables(facts)
    told = {}
    for fact in facts:
        number = x[fact.r]
        if told.setdefault(place_of(fact, made, x), number) != number:
            return False
    return True
