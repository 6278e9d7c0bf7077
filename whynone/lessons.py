"""Lessons: what follows of facts, as bounds of which one holds."""

from whynone.bounds import ROW, Bound
from whynone.facts import MADE, OF_ONE, OF_TWO, STANDS, made_tables, way_up

SAME_FUNCTION = 1
AT_MOST_WRITTEN = 2
AT_LEAST_WRITTEN = 3
SAME_TABLE = 4


def gap_bound(first, second, d):
    """The bound that x[first] - x[second] is at most d."""
    c = [0] * ROW
    c[first] += 1
    # Of one unknown with itself 0 has to stay: so it is counted, not set.
    c[second] -= 1
    return Bound(c, d)


def apart(first, second):
    """The two bounds of which one holds just when the two unknowns are not the same number."""
    return [gap_bound(first, second, -1), gap_bound(second, first, -1)]


def beside(at, passed, by):
    """For each fact that is passed one bound, which holds if it wrote at x[at]; by tells which of two."""
    bounds = []
    for i, fact in enumerate(passed):
        if (by >> i) % 2 == 0:
            bounds.append(gap_bound(at, fact.a, 0))
        else:
            bounds.append(gap_bound(fact.a, at, 0))
    return bounds


def same_function(p, q):
    return p.kind in (OF_ONE, OF_TWO) and p.kind == q.kind and p.f == q.f


def passed_to_written(made, p, q):
    """The facts of the way up from p's table that come before q; None if q isn't on it."""
    if p.kind != STANDS or q.kind != MADE:
        return None
    way = way_up(made, p.f)
    if q.f not in [fact.f for fact in way]:
        return None
    # A table is above those it is made of: what comes before q has made a table above q's.
    return [fact for fact in way if fact.f > q.f]


def tables_up(made, table):
    return [table] + [fact.b for fact in way_up(made, table)]


def passed_to_meeting(made, p, q):
    """The facts of both ways before they come to one table, p's and then q's; None if they never do."""
    if p.kind != STANDS or q.kind != STANDS:
        return None
    tables_of_q = tables_up(made, q.f)
    shared = [table for table in tables_up(made, p.f) if table in tables_of_q]
    if not shared:
        return None
    return [fact for fact in way_up(made, p.f) + way_up(made, q.f) if fact.f > shared[0]]


def passed_facts(facts, kind, p, q):
    """The facts w of the lesson, in the order of the bits of by; None if there's no such lesson."""
    if kind == SAME_FUNCTION:
        return [] if same_function(p, q) else None
    if kind in (AT_MOST_WRITTEN, AT_LEAST_WRITTEN):
        return passed_to_written(made_tables(facts), p, q)
    if kind == SAME_TABLE:
        return passed_to_meeting(made_tables(facts), p, q)
    return None


def last_bound(kind, p, q):
    if kind == AT_LEAST_WRITTEN:
        return gap_bound(q.r, p.r, 0)
    return gap_bound(p.r, q.r, 0)


def lesson_bounds(facts, kind, which_p, which_q, by):
    """The bounds of the lesson, in order; None if there's no such fact or lesson, or by has a bit too many."""
    if which_p >= len(facts) or which_q >= len(facts):
        return None
    p = facts[which_p]
    q = facts[which_q]
    passed = passed_facts(facts, kind, p, q)
    if passed is None or by >> len(passed) != 0:
        return None
    bounds = apart(p.a, q.a)
    if p.kind == OF_TWO:
        bounds.extend(apart(p.b, q.b))
    return bounds + beside(p.a, passed, by) + [last_bound(kind, p, q)]
