"""Promise 2: the line lesson. Which lessons there are, their bounds and their order, and what by tells."""

import unittest

from tests.helper import OPEN, ask, begin, bound, branches, cases, holds, lesson, plan, row, some, tell

INSIDE = 4294967295


def gap(first, second, d):
    """The bound that x[first] - x[second] is at most d."""
    c = row()
    c[first] += 1
    c[second] -= 1
    return c + [d]


def apart(first, second):
    return [gap(first, second, -1), gap(second, first, -1)]


class Lessons(unittest.TestCase):

    def check(self, facts, line, bounds):
        """The line answers 0, and there is a branch for each bound, in order."""
        lists = plan(12, facts=facts, somes=[[]])
        self.assertEqual(ask(begin(lists), lesson(*line), OPEN), [0, 0, len(bounds)])
        self.assertEqual(branches(lists, lesson(*line)), [[one] for one in bounds], line)

    def refused(self, facts, *line):
        lists = plan(12, facts=facts, somes=[[]])
        told = tell(begin(lists), cases(bound([1], 0)), lesson(*line), OPEN, holds(0), holds(1), some(0), holds(0))
        self.assertEqual(told, [[0], [0], [-22], [2], [0] + bound([1], 0), [-2], [0], [0] + bound([-1], -1)], line)


class OfFunctions(Lessons):

    def test_facts_of_kind_1(self):
        for f in range(4):
            facts = [(1, f, 0, 0, 1), (1, f, 2, 0, 3)]
            self.check(facts, (1, 0, 1), apart(0, 2) + [gap(1, 3, 0)])
            self.check(facts, (1, 1, 0), apart(2, 0) + [gap(3, 1, 0)])

    def test_facts_of_kind_1_say_nothing_of_b(self):
        self.check([(1, 0, 5, 0, 7), (1, 0, 6, 0, 8)], (1, 0, 1), apart(5, 6) + [gap(7, 8, 0)])

    def test_facts_of_kind_2(self):
        for f in range(4):
            facts = [(2, f, 0, 1, 2), (2, f, 3, 4, 5)]
            self.check(facts, (1, 0, 1), apart(0, 3) + apart(1, 4) + [gap(2, 5, 0)])
            self.check(facts, (1, 1, 0), apart(3, 0) + apart(4, 1) + [gap(5, 2, 0)])

    def test_p_and_q_one_fact(self):
        never, always = bound([], -1), bound([], 0)
        self.check([(1, 0, 3, 0, 4)], (1, 0, 0), [never, never, always])
        self.check([(2, 0, 3, 5, 4)], (1, 0, 0), [never] * 4 + [always])

    def test_the_same_unknown_in_both_facts(self):
        never, always = bound([], -1), bound([], 0)
        self.check([(1, 0, 3, 0, 4), (1, 0, 3, 0, 5)], (1, 0, 1), [never, never, gap(4, 5, 0)])
        self.check([(1, 0, 3, 0, 4), (1, 0, 5, 0, 4)], (1, 0, 1), apart(3, 5) + [always])
        self.check([(1, 0, 3, 0, 4), (1, 0, 4, 0, 3)], (1, 0, 1), apart(3, 4) + [gap(4, 3, 0)])
        self.check([(2, 0, 3, 4, 5), (2, 0, 6, 4, 7)], (1, 0, 1), apart(3, 6) + [never, never, gap(5, 7, 0)])
        self.check([(2, 0, 3, 4, 5), (2, 0, 4, 3, 5)], (1, 0, 1), apart(3, 4) + apart(4, 3) + [always])
        self.check([(2, 0, 3, 3, 3), (2, 0, 4, 4, 4)], (1, 0, 1), apart(3, 4) * 2 + [gap(3, 4, 0)])

    def test_first_and_last_unknown(self):
        self.check([(2, 0, 0, 11, 0), (2, 0, 11, 0, 11)], (1, 0, 1), apart(0, 11) + apart(11, 0) + [gap(0, 11, 0)])

    def test_the_first_and_the_last_fact(self):
        facts = [(1, 0, 0, 0, 1)] + [(3, 0, 0, 0, 1)] * 14 + [(1, 0, 2, 0, 3)]
        self.check(facts, (1, 0, 15), apart(0, 2) + [gap(1, 3, 0)])
        self.check(facts, (1, 15, 0), apart(2, 0) + [gap(3, 1, 0)])

    def test_other_functions(self):
        for kind in (1, 2):
            self.refused([(kind, 0, 0, 0, 1), (kind, 1, 2, 0, 3)], 1, 0, 1)
            self.refused([(kind, 3, 0, 0, 1), (kind, 2, 2, 0, 3)], 1, 1, 0)

    def test_functions_of_one_and_of_two(self):
        facts = [(1, 0, 0, 0, 1), (2, 0, 0, 0, 1)]
        self.refused(facts, 1, 0, 1)
        self.refused(facts, 1, 1, 0)

    def test_tables_are_no_functions(self):
        facts = [(3, 1, 0, 0, 1), (3, 1, 2, 0, 3), (4, 1, 0, 0, 1), (1, 1, 0, 0, 1), (2, 1, 0, 0, 1)]
        for p, q in ((0, 0), (0, 1), (2, 2), (0, 2), (2, 0), (0, 3), (3, 0), (2, 3), (3, 2), (2, 4), (4, 0)):
            self.refused(facts, 1, p, q)

    def test_by_has_no_bits(self):
        for facts in ([(1, 0, 0, 0, 1), (1, 0, 2, 0, 3)], [(2, 0, 0, 1, 2), (2, 0, 3, 4, 5)]):
            for by in (1, 2, 4, 2147483648, INSIDE):
                self.refused(facts, 1, 0, 1, by)
                self.refused(facts, 1, 0, 0, by)


# Table 4 is made of 3, 3 of 1, 1 of 0; table 5 of 1 too, and 2 of none. The facts stand out of their order.
TREE = [(4, 3, 3, 1, 4), (3, 4, 0, 0, 1), (4, 1, 5, 0, 6), (4, 4, 2, 3, 7), (3, 5, 8, 0, 9), (4, 5, 10, 1, 11),
        (3, 0, 1, 0, 2), (3, 2, 4, 0, 5), (3, 3, 7, 0, 8), (1, 3, 0, 0, 0)]
MAKES_3, READS_4, MAKES_1, MAKES_4, READS_5, MAKES_5, READS_0, READS_2, READS_3, FUNCTION = range(10)


def last_bound(kind, p, q):
    """The last bound of lesson 2 or 3, where p and q are the unknowns r of the two facts."""
    return gap(p, q, 0) if kind == 2 else gap(q, p, 0)


class OfWhatWasWritten(Lessons):
    """Lessons 2 and 3."""

    def test_the_table_itself(self):
        for kind in (2, 3):
            self.check(TREE, (kind, READS_4, MAKES_4), apart(0, 2) + [last_bound(kind, 1, 7)])
            self.check(TREE, (kind, READS_5, MAKES_5), apart(8, 10) + [last_bound(kind, 9, 11)])
            for by in (1, 2, INSIDE):
                self.refused(TREE, kind, READS_4, MAKES_4, by)

    def test_a_table_of_a_table(self):
        for kind in (2, 3):
            last = last_bound(kind, 1, 4)
            self.check(TREE, (kind, READS_4, MAKES_3, 0), apart(0, 3) + [gap(0, 2, 0), last])
            self.check(TREE, (kind, READS_4, MAKES_3, 1), apart(0, 3) + [gap(2, 0, 0), last])
            for by in (2, 3, 4, INSIDE):
                self.refused(TREE, kind, READS_4, MAKES_3, by)

    def test_each_bit_from_the_table_upward(self):
        for kind in (2, 3):
            for by in range(4):
                first = gap(2, 0, 0) if by in (1, 3) else gap(0, 2, 0)
                second = gap(3, 0, 0) if by in (2, 3) else gap(0, 3, 0)
                self.check(TREE, (kind, READS_4, MAKES_1, by), apart(0, 5) + [first, second, last_bound(kind, 1, 6)])
            for by in (4, 5, 8, 2147483648, INSIDE):
                self.refused(TREE, kind, READS_4, MAKES_1, by)

    def test_begun_in_the_middle(self):
        for kind in (2, 3):
            self.check(TREE, (kind, READS_3, MAKES_3), apart(7, 3) + [last_bound(kind, 8, 4)])
            self.check(TREE, (kind, READS_3, MAKES_1, 1), apart(7, 5) + [gap(3, 7, 0), last_bound(kind, 8, 6)])
            self.check(TREE, (kind, READS_5, MAKES_1, 0), apart(8, 5) + [gap(8, 10, 0), last_bound(kind, 9, 6)])

    def test_the_longest_way(self):
        facts = [(3, 5, 10, 0, 11)] + [(4, f, f, f - 1, f + 1) for f in (1, 4, 2, 5, 3)]
        for kind in (2, 3):
            for by in range(16):
                told = [gap(at, 10, 0) if by >> i & 1 else gap(10, at, 0) for i, at in enumerate((5, 4, 3, 2))]
                self.check(facts, (kind, 0, 1, by), apart(10, 1) + told + [last_bound(kind, 11, 2)])
            self.refused(facts, kind, 0, 1, 16)

    def test_the_same_unknown_in_both_facts(self):
        facts = [(3, 2, 0, 0, 1), (4, 2, 0, 1, 3), (4, 1, 0, 0, 1)]
        never, always = bound([], -1), bound([], 0)
        for kind in (2, 3):
            self.check(facts, (kind, 0, 1), [never, never, last_bound(kind, 1, 3)])
            for by in (0, 1):
                self.check(facts, (kind, 0, 2, by), [never, never, always, always])

    def test_not_on_the_way(self):
        for kind in (2, 3):
            for p, q in ((READS_4, MAKES_5), (READS_5, MAKES_3), (READS_5, MAKES_4), (READS_3, MAKES_4),
                         (READS_0, MAKES_1), (READS_0, MAKES_4), (READS_2, MAKES_1), (READS_2, MAKES_3)):
                self.refused(TREE, kind, p, q)

    def test_facts_of_other_kinds(self):
        for kind in (2, 3):
            for p, q in ((MAKES_4, READS_4), (MAKES_4, MAKES_3), (MAKES_4, MAKES_4), (READS_4, READS_4),
                         (READS_4, READS_3), (READS_3, FUNCTION), (FUNCTION, MAKES_3), (FUNCTION, FUNCTION)):
                self.refused(TREE, kind, p, q)

    def test_functions_make_no_tables(self):
        facts = [(3, 3, 0, 0, 1), (4, 3, 2, 0, 4), (1, 3, 0, 0, 1), (2, 3, 0, 0, 1)]
        for kind in (2, 3):
            self.check(facts, (kind, 0, 1), apart(0, 2) + [last_bound(kind, 1, 4)])
            for p, q in ((0, 2), (0, 3), (2, 1), (3, 1)):
                self.refused(facts, kind, p, q)


class OfTwoThatStand(Lessons):
    """Lesson 4."""

    def test_of_one_table(self):
        for f in range(6):
            facts = [(3, f, 0, 0, 1), (3, f, 2, 0, 3)]
            self.check(facts, (4, 0, 1), apart(0, 2) + [gap(1, 3, 0)])
            self.check(facts, (4, 1, 0), apart(2, 0) + [gap(3, 1, 0)])

    def test_of_one_table_that_is_made(self):
        facts = TREE + [(3, 4, 6, 0, 10)]
        self.check(facts, (4, READS_4, 10), apart(0, 6) + [gap(1, 10, 0)])
        for by in (1, 2, INSIDE):
            self.refused(facts, 4, READS_4, 10, by)

    def test_p_and_q_one_fact(self):
        never, always = bound([], -1), bound([], 0)
        for p in (READS_4, READS_0, READS_2):
            self.check(TREE, (4, p, p), [never, never, always])
            self.refused(TREE, 4, p, p, 1)

    def test_a_table_and_what_it_is_made_of(self):
        for by in (0, 1):
            passed = [gap(2, 0, 0) if by else gap(0, 2, 0)]
            self.check(TREE, (4, READS_4, READS_3, by), apart(0, 7) + passed + [gap(1, 8, 0)])
            # Seen from the other end it's xa(p) again, of another p.
            passed = [gap(2, 7, 0) if by else gap(7, 2, 0)]
            self.check(TREE, (4, READS_3, READS_4, by), apart(7, 0) + passed + [gap(8, 1, 0)])
        for by in (2, 3, INSIDE):
            self.refused(TREE, 4, READS_4, READS_3, by)
            self.refused(TREE, 4, READS_3, READS_4, by)

    def test_a_table_of_a_table_of_a_table(self):
        for by in range(8):
            passed = [gap(at, 0, 0) if by >> i & 1 else gap(0, at, 0) for i, at in enumerate((2, 3, 5))]
            self.check(TREE, (4, READS_4, READS_0, by), apart(0, 1) + passed + [gap(1, 2, 0)])
            passed = [gap(at, 1, 0) if by >> i & 1 else gap(1, at, 0) for i, at in enumerate((2, 3, 5))]
            self.check(TREE, (4, READS_0, READS_4, by), apart(1, 0) + passed + [gap(2, 1, 0)])
        self.refused(TREE, 4, READS_4, READS_0, 8)

    def test_two_tables_of_one(self):
        # Tables 4 and 5 come together at 1: what was written in 1 is not passed.
        for by in range(8):
            passed = [gap(at, 0, 0) if by >> i & 1 else gap(0, at, 0) for i, at in enumerate((2, 3, 10))]
            self.check(TREE, (4, READS_4, READS_5, by), apart(0, 8) + passed + [gap(1, 9, 0)])
            passed = [gap(at, 8, 0) if by >> i & 1 else gap(8, at, 0) for i, at in enumerate((10, 2, 3))]
            self.check(TREE, (4, READS_5, READS_4, by), apart(8, 0) + passed + [gap(9, 1, 0)])
        for by in (8, 9, 16, 2147483648, INSIDE):
            self.refused(TREE, 4, READS_4, READS_5, by)
            self.refused(TREE, 4, READS_5, READS_4, by)

    def test_as_many_as_there_can_be(self):
        facts = [(4, 5, 5, 2, 0), (4, 2, 2, 1, 0), (4, 1, 1, 0, 0), (4, 4, 4, 3, 0), (4, 3, 3, 0, 0),
                 (3, 5, 6, 0, 7), (3, 4, 8, 0, 9)]
        for by in range(32):
            passed = [gap(at, 6, 0) if by >> i & 1 else gap(6, at, 0) for i, at in enumerate((5, 2, 1, 4, 3))]
            self.check(facts, (4, 5, 6, by), apart(6, 8) + passed + [gap(7, 9, 0)])
        self.refused(facts, 4, 5, 6, 32)

    def test_a_table_that_was_never_told_of(self):
        # Tables 1 and 2 are made of 0, of which no fact is told.
        facts = [(4, 1, 0, 0, 1), (4, 2, 2, 0, 3), (3, 1, 4, 0, 5), (3, 2, 6, 0, 7)]
        self.check(facts, (4, 2, 3, 2), apart(4, 6) + [gap(4, 0, 0), gap(2, 4, 0), gap(5, 7, 0)])

    def test_the_same_unknown_in_both_facts(self):
        never, always = bound([], -1), bound([], 0)
        facts = [(3, 1, 0, 0, 1), (3, 0, 0, 0, 2), (3, 0, 3, 0, 1), (4, 1, 0, 0, 3)]
        for by in (0, 1):
            self.check(facts, (4, 0, 1, by), [never, never, always, gap(1, 2, 0)])
            self.check(facts, (4, 0, 2, by), apart(0, 3) + [always, always])

    def test_ways_that_never_come_together(self):
        for p in (READS_0, READS_3, READS_4, READS_5):
            self.refused(TREE, 4, p, READS_2)
            self.refused(TREE, 4, READS_2, p)
        self.refused([(4, 2, 0, 0, 1), (4, 3, 0, 1, 1), (3, 2, 0, 0, 1), (3, 3, 0, 0, 1)], 4, 2, 3)
        self.refused([(3, 0, 0, 0, 1), (3, 1, 0, 0, 1)], 4, 0, 1)

    def test_facts_of_other_kinds(self):
        for p, q in ((READS_4, MAKES_4), (MAKES_4, READS_4), (MAKES_3, MAKES_3), (MAKES_4, MAKES_3),
                     (FUNCTION, READS_3), (READS_3, FUNCTION), (FUNCTION, FUNCTION)):
            self.refused(TREE, 4, p, q)


class NoSuch(Lessons):

    def test_no_such_fact(self):
        one = {1: (1, 0, 0, 0, 1), 4: (3, 0, 0, 0, 1)}
        for kind, fact in one.items():
            for count in (1, 2, 16):
                facts = [fact] * count
                last = count - 1
                self.assertEqual(ask(begin(plan(facts=facts)), lesson(kind, last, last)), [0, 0])
                for beyond in (count, count + 1, INSIDE):
                    self.refused(facts, kind, beyond, 0)
                    self.refused(facts, kind, 0, beyond)
                    self.refused(facts, kind, beyond, beyond)

    def test_no_such_fact_of_what_was_written(self):
        facts = [(3, 1, 0, 0, 1), (4, 1, 0, 0, 1)]
        for kind in (2, 3):
            self.assertEqual(ask(begin(plan(facts=facts)), lesson(kind, 0, 1)), [0, 0])
            for beyond in (2, 3, INSIDE):
                self.refused(facts, kind, beyond, 1)
                self.refused(facts, kind, 0, beyond)

    def test_no_facts_at_all(self):
        for kind in range(1, 5):
            self.refused([], kind, 0, 0)

    def test_no_such_kind(self):
        facts = [(1, 0, 0, 0, 1), (2, 0, 0, 0, 1), (3, 1, 0, 0, 1), (4, 1, 0, 0, 1)]
        for kind in (0, 5, 6, 2147483648, INSIDE):
            for p in range(4):
                for q in range(4):
                    self.refused(facts, kind, p, q)


class Branches(Lessons):

    FACTS = [(1, 0, 0, 0, 1), (1, 0, 2, 0, 3), (2, 0, 0, 1, 2), (3, 1, 0, 0, 1), (4, 1, 2, 0, 3)]
    LINES = ((1, 0, 1), (1, 2, 2), (2, 3, 4), (3, 3, 4), (4, 3, 3))

    def test_no_branch(self):
        lists = plan(4, facts=self.FACTS, somes=[[]])
        for line in self.LINES + ((0, 0, 0), (1, 9, 0), (1, 0, 0, 1)):
            self.assertEqual(ask(begin(lists), some(0), lesson(*line), OPEN), [0, 1, -2, 0])

    def test_instead_of_the_first_branch(self):
        lists = plan(4, facts=self.FACTS, somes=[[]])
        le, turned = bound([3], 3), bound([-3], -4)
        a, b, c = apart(0, 2) + [gap(1, 3, 0)]
        self.assertEqual(branches(lists, cases(le), lesson(1, 0, 1)), [[le, a], [le, b], [le, c], [turned]])
        self.assertEqual(branches(lists, cases(le), lesson(1, 0, 1), lesson(1, 0, 1)),
                         [[le, a, a], [le, a, b], [le, a, c], [le, b], [le, c], [turned]])
        self.assertEqual(branches(lists, cases(le), some(0), lesson(1, 0, 1)), [[turned, a], [turned, b], [turned, c]])

    def test_512_bounds(self):
        lists = plan(4, facts=self.FACTS, somes=[[], [bound([1], 0)]])
        for line in self.LINES:
            asked = [begin(lists)] + [some(1)] * 511 + [lesson(*line)]
            told = ask(*asked, lesson(*line), OPEN, some(1), some(0), OPEN)
            count = told[514]
            self.assertEqual(told, [0] * 513 + [-28, count, -28, 0, count - 1])
            self.assertGreater(count, 2)

    def test_512_bounds_by_lessons(self):
        lists = plan(4, facts=self.FACTS, somes=[[]])
        told = ask(begin(lists), *[lesson(1, 0, 1)] * 513, OPEN)
        self.assertEqual(told, [0] * 513 + [-28, 1 + 2 * 512])

    def test_at_512_wrong_input_is_told_first(self):
        lists = plan(4, facts=self.FACTS, somes=[[], [bound([1], 0)]])
        told = ask(begin(lists), *[some(1)] * 512, lesson(1, 5, 0), lesson(0, 0, 0), lesson(1, 0, 1, 1), OPEN)
        self.assertEqual(told[513:], [-22, -22, -22, 1])

    def test_a_plan_begun_anew(self):
        first, second = plan(2, facts=[(1, 0, 0, 0, 1)]), plan(2, facts=[(2, 0, 0, 0, 1)])
        self.assertEqual(ask(begin(first), lesson(1, 0, 0), OPEN, begin(second), lesson(1, 0, 0), OPEN, lesson(4, 0, 0)),
                         [0, 0, 3, 0, 0, 5, -22])


if __name__ == "__main__":
    unittest.main()
