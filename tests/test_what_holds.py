"""What holds, a to d, over all calls together, at small plans."""

import itertools
import random
import unittest

from tests.helper import OPEN, add_up, ask, begin, bound, branches, cases, lesson, meets, plan, some, unit

MILLION = 1000000


def keeps(one, x):
    return sum(factor * number for factor, number in zip(one, x)) <= one[12]


def all_lessons(facts):
    """Every lesson of the facts that isn't refused: its line, and its bounds as holds tells them."""
    lists = plan(12, facts=facts)
    found = []
    for kind, p, q in itertools.product(range(1, 5), range(len(facts)), range(len(facts))):
        by = 0
        while ask(begin(lists), lesson(kind, p, q, by)) == [0, 0]:
            line = lesson(kind, p, q, by)
            found.append((line, [branch[0] for branch in branches(lists, line)]))
            by += 1
    return found


class Small:
    """A small plan, with all that can be asked of it."""

    def __init__(self, unknowns, lo, hi, facts, somes):
        self.unknowns, self.lo, self.hi, self.facts, self.somes = unknowns, lo, hi, facts, somes
        self.lists = plan(unknowns, lo, hi, facts, somes)
        self.lessons = all_lessons(facts)
        self.splits = [(some(k), bounds) for k, bounds in enumerate(somes)] + self.lessons

    def numbers(self, margin=0):
        return itertools.product(*[range(a - margin, b + margin + 1) for a, b in zip(self.lo, self.hi)])

    def met_by(self):
        rows = list(self.numbers())
        return [x for x, told in zip(rows, ask(*[meets(self.lists, x) for x in rows])) if told == 1]

    def keeps_all(self, x):
        within = all(a <= number <= b for a, number, b in zip(self.lo, x, self.hi))
        return within and all(any(keeps(one, x) for one in bounds) for line, bounds in self.splits)


def some_fact(chance, unknowns, made):
    kind = chance.choice((1, 1, 2, 3, 3, 3, 4, 4))
    a, b, r = [chance.randrange(unknowns) for turn in range(3)]
    if kind == 4:
        free = [f for f in (1, 2, 3) if f not in made]
        if free:
            f = chance.choice(free)
            made.append(f)
            return (4, f, a, chance.randrange(f), r)
        kind = 3
    return (kind, chance.randrange(4 if kind == 3 else 2), a, b if kind == 2 else 0, r)


def some_bound(chance, unknowns):
    return bound([chance.randrange(-3, 4) for turn in range(unknowns)], chance.randrange(-4, 4))


def some_plan(seed):
    chance = random.Random(seed)
    unknowns = chance.randrange(2, 5)
    lo = [chance.randrange(-1, 1) for turn in range(unknowns)]
    hi = [a + chance.randrange(1, 3) for a in lo]
    made = []
    facts = [some_fact(chance, unknowns, made) for turn in range(chance.randrange(6))]
    somes = [[some_bound(chance, unknowns) for bound_turn in range(chance.choice((1, 1, 2, 3)))]
             for turn in range(chance.randrange(5))]
    return Small(unknowns, lo, hi, facts, somes)


PLANS = [some_plan(seed) for seed in range(60)]


class JustIfTheyKeepAll(unittest.TestCase):
    """c: numbers meet a plan just if they keep its bounds, its somes, and all lessons."""

    def check(self, small):
        for x in small.numbers(1):
            self.assertEqual(ask(meets(small.lists, x))[0], int(small.keeps_all(x)), (small.facts, x))

    def test_small_plans(self):
        for small in PLANS:
            self.check(small)

    def test_functions(self):
        self.check(Small(4, [0] * 4, [1] * 4, [(1, 0, 0, 0, 1), (1, 0, 2, 0, 3), (1, 1, 1, 0, 0)], []))
        self.check(Small(4, [0] * 4, [1] * 4, [(2, 0, 0, 1, 2), (2, 0, 1, 0, 3), (2, 0, 3, 3, 1)], []))

    def test_a_table_of_a_table(self):
        facts = [(4, 1, 0, 0, 1), (4, 2, 1, 1, 2), (3, 2, 3, 0, 0), (3, 0, 3, 0, 1), (3, 1, 3, 0, 2)]
        self.check(Small(4, [0] * 4, [2] * 4, facts, []))

    def test_two_tables_of_one(self):
        facts = [(4, 1, 0, 0, 1), (4, 2, 1, 0, 2), (3, 1, 3, 0, 0), (3, 2, 3, 0, 1)]
        self.check(Small(4, [0] * 4, [2] * 4, facts, []))

    def test_each_part_is_needed(self):
        facts = [(4, 1, 0, 0, 1), (3, 1, 2, 0, 3), (3, 0, 2, 0, 1)]
        small = Small(4, [0] * 4, [1] * 4, facts, [[bound([1, 1], 1)]])
        missed = [[line for line, bounds in small.splits if not any(keeps(one, x) for one in bounds)]
                  for x in small.numbers()]
        alone = [lines for lines in missed if lines and len({line[2] for line in lines if line[0] == 4}) <= 1]
        self.assertIn([some(0)], missed)
        self.assertEqual({line[2] for lines in alone for line in lines if line[0] == 4}, {2, 3, 4})


class InABranch(unittest.TestCase):
    """a and d: what meets the plan is in a branch, with all its bounds, after any lines."""

    def some_line(self, chance, small, count):
        turn = chance.randrange(5)
        if turn == 0 and small.somes:
            return some(chance.randrange(len(small.somes)))
        if turn == 1 and small.lessons:
            return chance.choice(small.lessons)[0]
        if turn == 2:
            return cases(some_bound(chance, small.unknowns))
        times = [(chance.randrange(count + 1), chance.randrange(1, 4)) for pair in range(chance.randrange(3))]
        low = [chance.choice((0, 0, 1, 2)) for k in range(small.unknowns)]
        high = [chance.choice((0, 0, 1, 2)) for k in range(small.unknowns)]
        return add_up(times, low, high, chance.choice((1, 1, 1, 2, 3)))

    def check(self, small, lines):
        found = branches(small.lists, *lines)
        told = ask(begin(small.lists), *lines)
        met = small.met_by()
        for x in met:
            self.assertTrue(any(all(keeps(one, x) for one in branch) for branch in found), (x, found))
        if met:
            self.assertNotIn(1, told)
        self.assertEqual(not found, 1 in told)
        return told

    def test_after_any_lines(self):
        answered = {}
        for seed, small in enumerate(PLANS):
            chance = random.Random(seed)
            for turn in range(6):
                lines = [self.some_line(chance, small, count) for count in range(9)]
                told = self.check(small, lines)
                for line, number in zip(lines, told[1:]):
                    answered[(line[0], number)] = True
        for number in (2, 3, 4, 5):
            self.assertIn((number, 0), answered)

    def test_a_sum_of_all(self):
        small = Small(2, [0, 0], [2, 2], [], [[bound([2, 2], 5)], [bound([-2, 0], -1)]])
        lines = [some(0), some(1), add_up([(0, 1)], by=2), add_up([(1, 1)], by=2), add_up([(2, 1), (3, 1)])]
        self.check(small, lines)
        self.assertEqual(branches(small.lists, *lines)[0][2:], [bound([1, 1], 2), bound([-1], -1), bound([0, 1], 1)])


class CanBeMet(Exception):
    """There are no lines: numbers meet the plan."""


class Reasoner:
    """Tells lines that leave no branch: halves the unknowns by cases until a some or a lesson is broken."""

    def __init__(self, small):
        self.small = small
        self.lines = []

    def run(self):
        small = self.small
        self.close(0, [(number, None) for number in small.lo], [(number, None) for number in small.hi])
        return self.lines

    def least(self, one, lower, upper):
        return sum(one[k] * (lower[k][0] if one[k] > 0 else upper[k][0]) for k in range(self.small.unknowns))

    def broken(self, bounds, lower, upper):
        return all(self.least(one, lower, upper) > one[12] for one in bounds)

    def close(self, count, lower, upper):
        """Lines that take the first branch away, which has count bounds."""
        for line, bounds in self.small.splits:
            if self.broken(bounds, lower, upper):
                self.lines.append(line)
                self.lines.extend(self.contradiction(count, one, lower, upper) for one in bounds)
                return
        self.halve(count, lower, upper)

    def halve(self, count, lower, upper):
        for k in range(self.small.unknowns):
            if lower[k][0] < upper[k][0]:
                middle = (lower[k][0] + upper[k][0]) // 2
                self.lines.append(cases(bound(unit(k), middle)))
                self.close(count + 1, lower, upper[:k] + [(middle, count)] + upper[k + 1:])
                self.close(count + 1, lower[:k] + [(middle + 1, count)] + lower[k + 1:], upper)
                return
        raise CanBeMet()

    def contradiction(self, last, one, lower, upper):
        """The sum of the last bound and those of the unknowns: below 0, whatever it's divided by."""
        times, low, high = [(last, 1)], [0] * 12, [0] * 12
        for k in range(self.small.unknowns):
            ends, rest = (lower, low) if one[k] > 0 else (upper, high)
            which = ends[k][1]
            if which is None:
                rest[k] = abs(one[k])
            else:
                times.append((which, abs(one[k])))
        return add_up(times, low, high, MILLION)


class NoneMeets(unittest.TestCase):
    """a and b: lines that leave no branch are there just where no numbers meet the plan."""

    def closed(self, lists, lines):
        told = ask(begin(lists), *lines, OPEN)
        self.assertEqual(told, [0] * len(lines) + [1, 0])

    def test_small_plans(self):
        ways = [0, 0]
        for small in PLANS:
            met = small.met_by()
            if met:
                with self.assertRaises(CanBeMet):
                    Reasoner(small).run()
            else:
                self.closed(small.lists, Reasoner(small).run())
            ways[bool(met)] += 1
        self.assertGreater(min(ways), 10)

    def check(self, unknowns, facts, *somes):
        small = Small(unknowns, [0] * unknowns, [2] * unknowns, facts, somes)
        self.assertEqual(small.met_by(), [])
        self.closed(small.lists, Reasoner(small).run())
        # Each some is needed for it: without it there are numbers.
        for k in range(len(somes)):
            rest = [bounds for j, bounds in enumerate(somes) if j != k]
            fewer = Small(unknowns, [0] * unknowns, [2] * unknowns, facts, rest)
            self.assertNotEqual(fewer.met_by(), [])
            with self.assertRaises(CanBeMet):
                Reasoner(fewer).run()

    def test_a_some_without_bounds(self):
        self.check(1, [], [])

    def test_a_bound_without_unknowns(self):
        self.check(1, [], [bound([], -1)])

    def test_odd_and_even(self):
        self.check(2, [], [bound([2, -2], 1)], [bound([-2, 2], -1)])

    def test_functions(self):
        same, more = bound([1, -1], 0), bound([0, 0, 1, -1], -1)
        turned, other = bound([-1, 1], 0), bound([0, 0, -1, 1], -1)
        for last in (more, other):
            self.check(4, [(1, 0, 0, 0, 2), (1, 0, 1, 0, 3)], [same], [turned], [last])
            self.check(4, [(2, 0, 0, 1, 2), (2, 0, 1, 0, 3)], [same], [turned], [last])

    def test_a_table_that_was_written(self):
        facts = [(4, 1, 0, 0, 2), (3, 1, 1, 0, 3)]
        for last in (bound([0, 0, 1, -1], -1), bound([0, 0, -1, 1], -1)):
            self.check(4, facts, [bound([1, -1], 0)], [bound([-1, 1], 0)], [last])

    def test_a_table_of_a_table(self):
        # At x1 stood x2, elsewhere was written, and at x1 stands less or more.
        facts = [(4, 1, 1, 0, 2), (4, 2, 0, 1, 4), (3, 2, 1, 0, 3)]
        for apart in (bound([1, -1], -1), bound([-1, 1], -1)):
            for last in (bound([0, 0, 1, -1], -1), bound([0, 0, -1, 1], -1)):
                self.check(5, facts, [apart], [last])

    def test_two_tables_of_one(self):
        facts = [(4, 1, 0, 0, 4), (4, 2, 0, 0, 0), (3, 1, 1, 0, 2), (3, 2, 1, 0, 3)]
        for apart in (bound([1, -1], -1), bound([-1, 1], -1)):
            self.check(5, facts, [apart], [bound([0, 0, 1, -1], -1), bound([0, 0, -1, 1], -1)])

    def test_numbers_at_ten_thousand(self):
        # x0 and x1 are one number, but the function makes 10,000 of the one and less of the other.
        facts = [(1, 0, 0, 0, 2), (1, 0, 1, 0, 3)]
        somes = [[bound([1, -1], 0)], [bound([-1, 1], 0)], [bound([0, 0, 0, 1], 9999)]]
        lists = plan(4, [-10000, -10000, 10000, -10000], [10000] * 4, facts, somes)
        lines = [some(0), some(1), some(2), lesson(1, 0, 1), add_up([(1, 1), (3, 1)]), add_up([(0, 1), (3, 1)]),
                 add_up([(2, 1), (3, 1)], low=[0, 0, 1])]
        self.closed(lists, lines)
        self.assertEqual(ask(meets(lists, (5, 5, 10000, 9999)), meets(lists, (5, 5, 10000, 10000))), [0, 0])

    def test_far_below_what_a_bound_may_be(self):
        # The sum comes to -120,000,001: it has to be divided to be a bound as told.
        lists = plan(12, [10000] * 12, [10000] * 12, somes=[[bound([1000] * 12, -1)]])
        asked = [begin(lists), some(0)]
        self.assertEqual(ask(*asked, add_up([(0, 1)], low=[1000] * 12), OPEN), [0, 0, -22, 1])
        self.assertEqual(ask(*asked, add_up([(0, 1)], low=[1000] * 12, by=1000), OPEN), [0, 0, 1, 0])


if __name__ == "__main__":
    unittest.main()
