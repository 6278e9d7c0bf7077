"""Promise 1: which numbers meet a plan."""

import itertools
import unittest

from tests.helper import ask, bound, meets, met, plan, row, unit


class Ranges(unittest.TestCase):

    def test_each_unknown_at_its_edges(self):
        for k in range(12):
            lists = plan(12, unit(k, -3), unit(k, 7))
            for number, answer in ((-4, 0), (-3, 1), (0, 1), (7, 1), (8, 0)):
                self.assertEqual(met(lists, *unit(k, number)), answer)

    def test_one_number_alone(self):
        lists = plan(1, [10000], [10000])
        for number, answer in ((9999, 0), (10000, 1), (10001, 0), (-10000, 0)):
            self.assertEqual(met(lists, number), answer)
        lists = plan(1, [-10000], [-10000])
        for number, answer in ((-9999, 0), (-10000, 1), (-10001, 0), (10000, 0)):
            self.assertEqual(met(lists, number), answer)

    def test_numbers_far_off(self):
        lists = plan(1, [-10000], [10000])
        for number in (-2147483648, 2147483647):
            self.assertEqual(met(lists, number), 0)

    def test_behind_the_last_nothing_is_looked_at(self):
        facts = [(1, 0, 0, 0, 1), (3, 0, 0, 0, 1)]
        lists = plan(2, facts=facts, somes=[[bound([1, 1], 3)]])
        for behind in (1, -1, 2147483647, -2147483648):
            self.assertEqual(met(lists, 1, 2, *[behind] * 10), 1)
            self.assertEqual(met(lists, 2, 2, *[behind] * 10), 0)
        for unknowns in range(1, 12):
            self.assertEqual(met(plan(unknowns), *[0] * unknowns + [99] * (12 - unknowns)), 1)
            self.assertEqual(met(plan(unknowns), *[0] * (unknowns - 1) + [99] * (13 - unknowns)), 0)


class Somes(unittest.TestCase):

    def test_a_sum_at_its_edge(self):
        lists = plan(2, somes=[[bound([2, -3], 4)]])
        for x, answer in (((2, 0), 1), ((3, 0), 0), ((5, 2), 1), ((5, 1), 0), ((-1, -2), 1), ((0, -2), 0)):
            self.assertEqual(met(lists, *x), answer)

    def test_each_unknown_counts(self):
        for k in range(12):
            lists = plan(12, somes=[[bound(unit(k, 2), 5)]])
            self.assertEqual(met(lists, *unit(k, 2)), 1)
            self.assertEqual(met(lists, *unit(k, 3)), 0)

    def test_one_bound_is_enough(self):
        for count in range(1, 7):
            for k in range(count):
                some = [bound([], -1)] * count
                self.assertEqual(met(plan(somes=[some])), 0)
                some[k] = bound([1], 0)
                self.assertEqual(met(plan(somes=[some]), 0), 1)
                self.assertEqual(met(plan(somes=[some]), 1), 0)

    def test_every_some_is_asked(self):
        for k in range(32):
            somes = [[bound([], 0)]] * 32
            somes[k] = [bound([1], 0)]
            self.assertEqual(met(plan(somes=somes), 0), 1)
            self.assertEqual(met(plan(somes=somes), 1), 0)

    def test_a_some_without_bounds(self):
        self.assertEqual(met(plan(somes=[])), 1)
        self.assertEqual(met(plan(somes=[[]])), 0)
        self.assertEqual(met(plan(somes=[[bound([], 0)], []])), 0)
        self.assertEqual(met(plan(somes=[[], [bound([], 0)]])), 0)

    def test_a_bound_without_unknowns(self):
        for d, answer in ((-1000000, 0), (-1, 0), (0, 1), (999999, 1)):
            self.assertEqual(met(plan(somes=[[bound([], d)]]), 7, -7), answer)

    def test_a_sum_far_above_d(self):
        lists = plan(12, [-10000] * 12, [10000] * 12, somes=[[bound([1000] * 12, 999999)]])
        self.assertEqual(met(lists, *[10000] * 12), 0)
        self.assertEqual(met(lists, *[-10000] * 12), 1)
        self.assertEqual(met(lists, *[1000] + [0] * 11), 0)
        self.assertEqual(met(lists, *[999] + [0] * 11), 1)


class Functions(unittest.TestCase):

    def check(self, facts, pairs, unknowns=4):
        lists = plan(unknowns, facts=facts)
        for x, answer in pairs:
            self.assertEqual(met(lists, *x), answer, (facts, x))

    def test_one_number_makes_one(self):
        self.check([(1, 0, 0, 0, 2), (1, 0, 1, 0, 3)],
                   [((1, 1, 5, 5), 1), ((1, 1, 5, 6), 0), ((1, 2, 5, 6), 1), ((1, 2, 5, 5), 1)])

    def test_other_functions_are_others(self):
        for f, g in itertools.permutations(range(4), 2):
            self.check([(1, f, 0, 0, 2), (1, g, 1, 0, 3)], [((1, 1, 5, 6), 1)])
            self.check([(2, f, 0, 0, 2), (2, g, 1, 1, 3)], [((1, 1, 5, 6), 1)])

    def test_each_function_is_kept(self):
        for f in range(4):
            self.check([(1, f, 0, 0, 2), (1, f, 1, 0, 3)], [((1, 1, 5, 6), 0)])
            self.check([(2, f, 0, 0, 2), (2, f, 1, 1, 3)], [((1, 1, 5, 6), 0)])

    def test_two_numbers_in_their_order(self):
        self.check([(2, 0, 0, 1, 2), (2, 0, 1, 0, 3)],
                   [((1, 1, 5, 5), 1), ((1, 1, 5, 6), 0), ((1, 2, 5, 6), 1)])
        self.check([(2, 0, 0, 1, 4), (2, 0, 2, 3, 5)],
                   [((1, 2, 1, 2, 5, 5), 1), ((1, 2, 1, 2, 5, 6), 0), ((1, 2, 1, 3, 5, 6), 1),
                    ((1, 2, 3, 2, 5, 6), 1), ((1, 2, 2, 1, 5, 6), 1)], 6)

    def test_functions_of_one_and_of_two_are_others(self):
        self.check([(1, 0, 0, 0, 2), (2, 0, 0, 0, 3)], [((1, 0, 5, 6), 1)])
        self.check([(1, 0, 0, 0, 2), (2, 0, 0, 1, 3)], [((1, 0, 5, 6), 1), ((0, 0, 5, 6), 1)])

    def test_functions_and_tables_are_others(self):
        self.check([(1, 0, 0, 0, 2), (3, 0, 0, 0, 3)], [((0, 0, 5, 6), 1), ((1, 0, 5, 6), 1)])
        self.check([(2, 0, 0, 1, 2), (3, 0, 0, 0, 3)], [((0, 0, 5, 6), 1), ((1, 0, 5, 6), 1)])

    def test_the_same_unknown_in_both_facts(self):
        self.check([(1, 0, 0, 0, 1), (1, 0, 0, 0, 2)], [((7, 3, 3, 0), 1), ((7, 3, 4, 0), 0)])
        self.check([(1, 0, 0, 0, 1), (1, 0, 1, 0, 1)], [((7, 3, 0, 0), 1), ((3, 3, 0, 0), 1)])
        self.check([(1, 0, 0, 0, 0)], [((7, 0, 0, 0), 1)])
        self.check([(2, 0, 0, 0, 1), (2, 0, 0, 0, 2)], [((7, 3, 3, 0), 1), ((7, 3, 4, 0), 0)])

    def test_a_fact_told_twice(self):
        self.check([(1, 0, 0, 0, 1)] * 16, [((7, 3, 0, 0), 1)])

    def test_the_last_of_sixteen_facts(self):
        self.check([(1, 0, 0, 0, 1)] * 15 + [(1, 0, 2, 0, 3)], [((7, 3, 7, 3), 1), ((7, 3, 7, 4), 0)])

    def test_a_function_of_what_a_function_makes(self):
        self.check([(1, 0, 0, 0, 1), (1, 0, 1, 0, 2), (1, 0, 2, 0, 3)],
                   [((1, 2, 1, 2), 1), ((1, 2, 1, 3), 0), ((1, 1, 1, 1), 1), ((1, 1, 1, 2), 0)])


class Tables(unittest.TestCase):

    def check(self, facts, pairs, unknowns=6):
        lists = plan(unknowns, facts=facts)
        for x, answer in pairs:
            self.assertEqual(met(lists, *x), answer, (facts, x))

    def test_at_one_number_stands_one(self):
        for f in range(6):
            self.check([(3, f, 0, 0, 2), (3, f, 1, 0, 3)],
                       [((1, 1, 5, 5), 1), ((1, 1, 5, 6), 0), ((1, 2, 5, 6), 1)])

    def test_other_tables_are_others(self):
        for f, g in itertools.permutations(range(6), 2):
            self.check([(3, f, 0, 0, 2), (3, g, 1, 0, 3)], [((1, 1, 5, 6), 1)])

    def test_what_was_written_stands(self):
        for b in range(5):
            for f in range(b + 1, 6):
                self.check([(4, f, 0, b, 1), (3, f, 2, 0, 3)],
                           [((1, 5, 1, 5), 1), ((1, 5, 1, 6), 0), ((1, 5, 2, 6), 1)])

    def test_elsewhere_all_stays(self):
        for b in range(5):
            for f in range(b + 1, 6):
                self.check([(4, f, 0, b, 1), (3, f, 2, 0, 3), (3, b, 4, 0, 5)],
                           [((1, 9, 2, 5, 2, 5), 1), ((1, 9, 2, 5, 2, 6), 0), ((1, 9, 2, 5, 3, 6), 1)])

    def test_the_table_it_is_made_of_is_not_written(self):
        self.check([(4, 1, 0, 0, 1), (3, 0, 2, 0, 3)], [((1, 5, 1, 6), 1)])
        self.check([(4, 1, 0, 0, 1), (3, 1, 2, 0, 3), (3, 0, 4, 0, 5)], [((1, 5, 1, 5, 1, 6), 1)])

    def test_a_table_written_alone(self):
        self.check([(4, 1, 0, 0, 1)], [((1, 5), 1), ((0, 0), 1)])
        self.check([(4, 1, 0, 0, 0)], [((3,), 1)])

    def test_a_table_of_a_table(self):
        facts = [(4, 1, 0, 0, 1), (4, 2, 2, 1, 3), (3, 2, 4, 0, 5)]
        for order in itertools.permutations(facts):
            self.check(list(order),
                       [((1, 5, 2, 6, 1, 5), 1), ((1, 5, 2, 6, 1, 6), 0), ((1, 5, 2, 6, 2, 6), 1),
                        ((1, 5, 2, 6, 2, 5), 0), ((1, 5, 2, 6, 3, 9), 1),
                        ((1, 5, 1, 6, 1, 6), 1), ((1, 5, 1, 6, 1, 5), 0)])

    def test_a_way_of_five(self):
        facts = [(4, f, f - 1, f - 1, 6) for f in range(1, 6)] + [(3, 5, 7, 0, 8), (3, 0, 7, 0, 9)]
        for at in range(5):
            self.check(facts, [((0, 1, 2, 3, 4, 0, 6, at, 6, 7), 1), ((0, 1, 2, 3, 4, 0, 6, at, 7, 7), 0)], 10)
        self.check(facts, [((0, 1, 2, 3, 4, 0, 6, 5, 7, 7), 1), ((0, 1, 2, 3, 4, 0, 6, 5, 6, 7), 0)], 10)

    def test_two_tables_of_one(self):
        facts = [(4, 1, 0, 0, 1), (4, 2, 2, 0, 3), (3, 1, 4, 0, 5), (3, 2, 4, 0, 6)]
        self.check(facts, [((1, 5, 2, 6, 3, 9, 9), 1), ((1, 5, 2, 6, 3, 9, 8), 0),
                           ((1, 5, 2, 6, 1, 5, 9), 1), ((1, 5, 2, 6, 1, 9, 9), 0),
                           ((1, 5, 2, 6, 2, 9, 6), 1), ((1, 5, 2, 6, 2, 9, 9), 0),
                           ((1, 5, 1, 6, 1, 5, 6), 1), ((1, 5, 1, 6, 1, 6, 6), 0)], 7)

    def test_the_same_unknown_in_both_facts(self):
        self.check([(4, 1, 0, 0, 1), (3, 1, 0, 0, 2)], [((7, 3, 3), 1), ((7, 3, 4), 0)])
        self.check([(3, 0, 0, 0, 1), (3, 0, 0, 0, 2)], [((7, 3, 3), 1), ((7, 3, 4), 0)])
        self.check([(4, 1, 0, 0, 1), (3, 1, 0, 0, 1)], [((7, 3), 1)])
        self.check([(3, 0, 0, 0, 0), (3, 0, 1, 0, 2)], [((4, 4, 4), 1), ((4, 4, 5), 0), ((4, 5, 5), 1)])

    def test_the_same_written_twice(self):
        facts = [(4, 1, 0, 0, 1), (4, 2, 0, 1, 2), (3, 2, 0, 0, 3), (3, 1, 0, 0, 4)]
        self.check(facts, [((7, 1, 2, 2, 1), 1), ((7, 1, 2, 1, 1), 0), ((7, 1, 2, 2, 2), 0)])


def root_tables(facts):
    made = [f for kind, f, a, b, r in facts if kind == 4]
    return [f for f in range(6) if f not in made]


def tables_of(roots, filled, facts, x):
    tables = dict(zip(roots, filled))
    for kind, f, a, b, r in sorted(facts, key=lambda fact: fact[1]):
        if kind == 4:
            tables[f] = list(tables[b])
            tables[f][x[a]] = x[r]
    return tables


def some_tables_do(facts, x, size):
    """Tries all tables over the numbers 0 to size - 1."""
    roots = [f for f in root_tables(facts) if any(f in (g, b) for kind, g, a, b, r in facts)]
    for filled in itertools.product(itertools.product(range(size), repeat=size), repeat=len(roots)):
        tables = tables_of(roots, filled, facts, x)
        if all(kind != 3 or tables[f][x[a]] == x[r] for kind, f, a, b, r in facts):
            return True
    return False


class AgainstAllTables(unittest.TestCase):

    def compare(self, facts, unknowns, size):
        lists = plan(unknowns, [0] * unknowns, [size - 1] * unknowns, facts)
        for x in itertools.product(range(size), repeat=unknowns):
            self.assertEqual(met(lists, *x), int(some_tables_do(facts, x, size)), (facts, x))

    def test_one_written_and_two_read(self):
        self.compare([(4, 1, 0, 0, 1), (3, 1, 2, 0, 3), (3, 0, 2, 0, 1)], 4, 3)

    def test_a_way_of_three(self):
        self.compare([(4, 1, 0, 0, 1), (4, 3, 2, 1, 0), (4, 4, 3, 3, 2), (3, 4, 4, 0, 1), (3, 1, 4, 0, 3)], 5, 3)

    def test_ways_that_come_together(self):
        facts = [(4, 1, 0, 0, 1), (4, 2, 1, 1, 2), (4, 3, 2, 1, 0), (3, 2, 3, 0, 4), (3, 3, 4, 0, 3)]
        self.compare(facts, 5, 3)

    def test_facts_out_of_order(self):
        facts = [(3, 5, 0, 0, 1), (4, 5, 2, 3, 1), (3, 3, 0, 0, 2), (4, 3, 1, 2, 3), (3, 2, 3, 0, 0)]
        self.compare(facts, 4, 3)


class AllTogether(unittest.TestCase):

    def test_each_part_can_fail_alone(self):
        lists = plan(3, [0, 0, 0], [5, 5, 5], [(1, 0, 0, 0, 2), (1, 0, 1, 0, 0)], [[bound([1, -1], 0)]])
        self.assertEqual(met(lists, 1, 1, 1), 1)
        self.assertEqual(met(lists, 1, 1, 2), 0)
        self.assertEqual(met(lists, 2, 1, 2), 0)
        self.assertEqual(met(lists, 1, 6, 1), 0)

    def test_asked_of_several_plans(self):
        first, second = plan(1, [0], [3]), plan(1, [2], [5])
        rows = [row(number) for number in (1, 3, 4)]
        asked = [meets(lists, x) for x in rows for lists in (first, second)]
        self.assertEqual(ask(*asked), [1, 0, 1, 1, 0, 1])


if __name__ == "__main__":
    unittest.main()
