"""Promise 1: which plans are as told. meets and begin are asked alike."""

import unittest

from tests.helper import ask, begin, bound, meets, plan, row, unit

INSIDE = 4294967295


class AsTold(unittest.TestCase):

    def told(self, lists):
        answers = ask(meets(lists, ()), begin(lists))
        self.assertIn(answers[0], (0, 1))
        self.assertEqual(answers[1], 0)

    def refused(self, lists):
        self.assertEqual(ask(meets(lists, ()), begin(lists)), [-22, -22])


class Unknowns(AsTold):

    def test_how_many(self):
        for unknowns in range(1, 13):
            self.told(plan(unknowns))
        for unknowns in (0, 13, 14, 25, 2147483648, INSIDE):
            self.refused(plan(unknowns))

    def test_none_with_rows_of_zeros(self):
        self.refused(plan(0, lo=[], hi=[]))

    def test_thirteen_with_rows_of_zeros(self):
        self.refused(plan(13, lo=[], hi=[]))

    def test_lo_at_most_hi(self):
        for k in range(3):
            lo, hi = row(), row()
            lo[k] = hi[k] = 5
            self.told(plan(3, lo, hi))
            hi[k] = 4
            self.refused(plan(3, lo, hi))

    def test_within_ten_thousand(self):
        for k in (0, 4, 11):
            self.told(plan(12, unit(k, -10000), unit(k, 10000)))
            self.told(plan(12, unit(k, 10000), unit(k, 10000)))
            self.told(plan(12, unit(k, -10000), unit(k, -10000)))
            self.refused(plan(12, unit(k, -10001), row()))
            self.refused(plan(12, row(), unit(k, 10001)))
            self.refused(plan(12, unit(k, 10001), unit(k, 10001)))
            self.refused(plan(12, unit(k, -10001), unit(k, -10001)))
            self.refused(plan(12, unit(k, -2147483648), unit(k, 2147483647)))

    def test_zero_behind_the_last(self):
        for unknowns in (1, 5, 11):
            for k in range(unknowns, 12):
                self.refused(plan(unknowns, unit(k, -1), row()))
                self.refused(plan(unknowns, row(), unit(k, 1)))
                self.refused(plan(unknowns, unit(k, 1), unit(k, 1)))
                self.refused(plan(unknowns, unit(k, -1), unit(k, -1)))
            self.told(plan(unknowns, unit(unknowns - 1, -1), unit(unknowns - 1, 1)))


class Facts(AsTold):

    def one(self, unknowns, *fact):
        return plan(unknowns, facts=[fact])

    def test_how_many(self):
        for count in (0, 1, 15, 16):
            self.told(plan(facts=[(1, 0, 0, 0, 1)] * count))
        for count in (17, 18, 20):
            self.refused(plan(facts=[(1, 0, 0, 0, 1)] * count))

    def test_kinds(self):
        for kind in (1, 2, 3, 4):
            self.told(self.one(1, kind, 1, 0, 0, 0))
        for kind in (0, 5, 6, INSIDE):
            self.refused(self.one(1, kind, 1, 0, 0, 0))

    def test_functions(self):
        for kind in (1, 2):
            for f in range(4):
                self.told(self.one(2, kind, f, 0, 0, 1))
            for f in (4, 5, 6, INSIDE):
                self.refused(self.one(2, kind, f, 0, 0, 1))

    def test_tables(self):
        for f in range(6):
            self.told(self.one(2, 3, f, 0, 0, 1))
        for f in range(1, 6):
            self.told(self.one(2, 4, f, 0, 0, 1))
        for f in (6, 7, INSIDE):
            self.refused(self.one(2, 3, f, 0, 0, 1))
            self.refused(self.one(2, 4, f, 0, 0, 1))

    def test_a_and_r_are_unknowns(self):
        for kind in (1, 2, 3, 4):
            for unknowns in (1, 3, 12):
                last = unknowns - 1
                self.told(self.one(unknowns, kind, 1, last, 0, last))
                for beyond in (unknowns, unknowns + 1, INSIDE):
                    self.refused(self.one(unknowns, kind, 1, beyond, 0, 0))
                    self.refused(self.one(unknowns, kind, 1, 0, 0, beyond))

    def test_b_is_zero_with_kinds_1_and_3(self):
        for kind in (1, 3):
            self.told(self.one(3, kind, 2, 0, 0, 0))
            for b in (1, 2, INSIDE):
                self.refused(self.one(3, kind, 2, 0, b, 0))

    def test_b_is_an_unknown_with_kind_2(self):
        for unknowns in (1, 3, 12):
            self.told(self.one(unknowns, 2, 0, 0, unknowns - 1, 0))
            for beyond in (unknowns, unknowns + 1, INSIDE):
                self.refused(self.one(unknowns, 2, 0, 0, beyond, 0))

    def test_b_is_below_f_with_kind_4(self):
        for f in range(6):
            for b in range(f):
                self.told(self.one(1, 4, f, 0, b, 0))
            for b in (f, f + 1, INSIDE):
                self.refused(self.one(1, 4, f, 0, b, 0))

    def test_b_of_kind_4_is_no_unknown(self):
        self.told(self.one(1, 4, 5, 0, 4, 0))

    def test_one_fact_of_kind_4_for_each_table(self):
        self.told(plan(facts=[(4, f, 0, 0, 1) for f in range(1, 6)]))
        self.refused(plan(facts=[(4, 1, 0, 0, 1), (4, 1, 0, 0, 1)]))
        self.refused(plan(facts=[(4, 3, 0, 0, 1), (4, 2, 0, 0, 1), (4, 3, 1, 2, 0)]))

    def test_other_facts_may_share_f(self):
        self.told(plan(facts=[(3, 2, 0, 0, 1), (3, 2, 1, 0, 0), (4, 2, 0, 0, 1), (1, 2, 0, 0, 0), (2, 2, 0, 0, 0)]))

    def test_a_wrong_fact_in_any_place(self):
        good = (1, 0, 0, 0, 1)
        for k in range(16):
            facts = [good] * 16
            facts[k] = (1, 4, 0, 0, 1)
            self.refused(plan(facts=facts))


class Somes(AsTold):

    def test_how_many(self):
        for count in (0, 1, 31, 32):
            self.told(plan(somes=[[bound([1], 0)]] * count))
            self.told(plan(somes=[[]] * count))
        for count in (33, 34, 40):
            self.refused(plan(somes=[[bound([1], 0)]] * count))
            self.refused(plan(somes=[[]] * count))

    def test_how_many_bounds(self):
        for count in range(7):
            self.told(plan(somes=[[bound([1], 0)] * count]))
        for count in (7, 8):
            self.refused(plan(somes=[[bound([1], 0)] * count]))
            self.refused(plan(somes=[[], [bound([1], 0)] * count]))

    def test_c_within_a_thousand(self):
        for k in (0, 7, 11):
            for factor in (-1000, -1, 0, 1, 1000):
                self.told(plan(12, somes=[[bound(unit(k, factor), 0)]]))
            for factor in (-2147483648, -1001, 1001, 2147483647):
                self.refused(plan(12, somes=[[bound(unit(k, factor), 0)]]))

    def test_c_is_zero_behind_the_last(self):
        for unknowns in (1, 5, 11):
            self.told(plan(unknowns, somes=[[bound(unit(unknowns - 1), 0)]]))
            for k in range(unknowns, 12):
                for factor in (-1, 1):
                    self.refused(plan(unknowns, somes=[[bound(unit(k, factor), 0)]]))

    def test_d(self):
        for c in ([], [3]):
            for d in (-1000000, -1, 0, 1, 999999):
                self.told(plan(somes=[[bound(c, d)]]))
            for d in (-2147483648, -1000001, 1000000, 2147483647):
                self.refused(plan(somes=[[bound(c, d)]]))

    def test_a_wrong_bound_in_any_place(self):
        for s in range(32):
            somes = [[bound([1], 0)]] * 32
            somes[s] = [bound([1001], 0)]
            self.refused(plan(somes=somes))
        for k in range(6):
            bounds = [bound([1], 0)] * 6
            bounds[k] = bound([1], 1000000)
            self.refused(plan(somes=[[], bounds]))


class WrongInOneWay(AsTold):

    def test_numbers_that_miss_a_wrong_plan(self):
        lists = plan(1, lo=[0], hi=[10001])
        self.assertEqual(ask(meets(lists, (-5,)), meets(lists, (5,)), meets(lists, (20000,))), [-22] * 3)

    def test_everything_at_its_edge(self):
        facts = [(4, f, 11, f - 1, 11) for f in range(1, 6)] + [(2, 3, 11, 11, 11)] * 11
        edge = [bound([1000] * 12, 999999), bound([-1000] * 12, -1000000)] * 3
        lists = plan(12, [-10000] * 12, [10000] * 12, facts, [edge] * 32)
        self.told(lists)
        self.assertEqual(ask(meets(lists, [10000] * 12)), [1])
        self.assertEqual(ask(meets(lists, [-10000] * 12)), [1])


if __name__ == "__main__":
    unittest.main()
