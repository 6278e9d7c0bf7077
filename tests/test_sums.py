"""Promise 2: the line sum, and what it does to the first branch."""

import unittest

from tests.helper import OPEN, add_up, ask, begin, bound, branches, cases, holds, plan, row, some, tell, unit

INSIDE = 4294967295
MILLION = 1000000


def made_of(bounds):
    """Some 0 takes a branch away; each of the others puts one of the bounds behind it."""
    return [[]] + [[one] for one in bounds]


class Sums(unittest.TestCase):

    def begun(self, bounds, unknowns=3, lo=None, hi=None):
        """A plan, and the calls that leave one branch with the bounds."""
        lists = plan(unknowns, lo, hi, somes=made_of(bounds))
        return [begin(lists)] + [some(k + 1) for k in range(len(bounds))]

    def comes(self, begun, line, one):
        """The bound stands behind the others of the branch, which stay."""
        count = len(begun) - 1
        told = tell(*begun, line, OPEN, *[holds(k) for k in range(count + 2)])[len(begun):]
        before = tell(*begun, *[holds(k) for k in range(count)])[len(begun):]
        self.assertEqual(told, [[0], [1]] + before + [[0] + one, [-2]])

    def gone(self, begun, line):
        self.assertEqual(ask(*begun, line, OPEN)[len(begun):], [1, 0])

    def refused(self, begun, line):
        count = len(begun) - 1
        looked = [OPEN] + [holds(k) for k in range(count + 1)]
        before = tell(*begun, *looked)[len(begun):]
        self.assertEqual(tell(*begun, line, *looked)[len(begun):], [[-22]] + before)


class Adding(Sums):

    BOUNDS = [bound([1, 2, 3], 4), bound([-5, 6, 0], -7), bound([0, 0, 9], 8)]

    def test_one_bound(self):
        begun = self.begun(self.BOUNDS)
        for which in range(3):
            self.comes(begun, add_up([(which, 1)]), self.BOUNDS[which])

    def test_how_many_times(self):
        begun = self.begun(self.BOUNDS)
        self.comes(begun, add_up([(0, 5)]), bound([5, 10, 15], 20))
        self.comes(begun, add_up([(1, 3)]), bound([-15, 18, 0], -21))
        self.comes(begun, add_up([(1, 0)]), bound([], 0))

    def test_several_bounds(self):
        begun = self.begun(self.BOUNDS)
        self.comes(begun, add_up([(0, 1), (1, 1), (2, 1)]), bound([-4, 8, 12], 5))
        self.comes(begun, add_up([(2, 2), (0, 10)]), bound([10, 20, 48], 56))

    def test_one_bound_in_several_pairs(self):
        begun = self.begun(self.BOUNDS)
        self.comes(begun, add_up([(0, 1), (0, 2), (1, 1), (0, 4)]), bound([2, 20, 21], 21))

    def test_low_alone(self):
        begun = self.begun([], lo=[-3, 4, 0], hi=[9, 9, 9])
        self.comes(begun, add_up(low=[1]), bound([-1], 3))
        self.comes(begun, add_up(low=[0, 1]), bound([0, -1], -4))
        self.comes(begun, add_up(low=[0, 0, 1]), bound([0, 0, -1], 0))
        self.comes(begun, add_up(low=[2, 3, 5]), bound([-2, -3, -5], -6))

    def test_high_alone(self):
        begun = self.begun([], lo=[-9, -9, -9], hi=[-3, 4, 0])
        self.comes(begun, add_up(high=[1]), bound([1], -3))
        self.comes(begun, add_up(high=[0, 1]), bound([0, 1], 4))
        self.comes(begun, add_up(high=[0, 0, 1]), bound([0, 0, 1], 0))
        self.comes(begun, add_up(high=[2, 3, 5]), bound([2, 3, 5], 6))

    def test_each_unknown(self):
        begun = self.begun([], 12, list(range(-6, 6)), list(range(12)))
        for k in range(12):
            self.comes(begun, add_up(low=unit(k, 7)), bound(unit(k, -7), 7 * (6 - k)))
            self.comes(begun, add_up(high=unit(k, 7)), bound(unit(k, 7), 7 * k))

    def test_all_together(self):
        begun = self.begun(self.BOUNDS, lo=[-1, -2, -3], hi=[10, 20, 30])
        line = add_up([(0, 2), (2, 1)], [1, 0, 4], [0, 5, 2])
        self.comes(begun, line, bound([2 - 1, 4 + 5, 6 + 9 - 4 + 2], 8 + 8 + 1 + 12 + 100 + 60))

    def test_nothing_added(self):
        self.comes(self.begun([]), add_up(), bound([], 0))
        self.comes(self.begun(self.BOUNDS), add_up(by=7), bound([], 0))

    def test_of_a_sum(self):
        lines = [add_up(high=[1, 1]), add_up([(0, 3)]), add_up([(0, 1), (1, 1)])]
        told = branches(plan(2, somes=[[]]), *lines)
        self.assertEqual(told, [[bound([1, 1], 20), bound([3, 3], 60), bound([4, 4], 80)]])

    def test_numbers_at_ten_thousand(self):
        begun = self.begun([], 2, [-10000, -10000], [10000, 10000])
        self.comes(begun, add_up(high=[99]), bound([99], 990000))
        self.refused(begun, add_up(high=[100]))
        self.comes(begun, add_up(high=[MILLION, MILLION], by=MILLION), bound([1, 1], 20000))
        self.comes(begun, add_up(low=[MILLION, MILLION], by=MILLION), bound([-1, -1], 20000))
        self.comes(begun, add_up(low=[1], high=[1]), bound([], 20000))


class Dividing(Sums):

    def test_c_and_d(self):
        begun = self.begun([bound([6, -9, 0], 12)])
        self.comes(begun, add_up([(0, 1)], by=3), bound([2, -3], 4))
        self.comes(begun, add_up([(0, 2)], by=3), bound([4, -6], 8))
        self.comes(begun, add_up([(0, 2)], by=6), bound([2, -3], 4))

    def test_d_downwards(self):
        for d, by, quotient in ((5, 2, 2), (4, 2, 2), (1, 2, 0), (0, 2, 0), (-1, 2, -1), (-2, 2, -1), (-3, 2, -2),
                                (-7, 10, -1), (-10, 10, -1), (-11, 10, -2), (9, 10, 0), (10, 10, 1)):
            begun = self.begun([bound([by, -by], d)])
            self.comes(begun, add_up([(0, 1)], by=by), bound([1, -1], quotient))

    def test_divided_once_all_is_added(self):
        begun = self.begun([bound([1], 1), bound([1], 2)])
        self.comes(begun, add_up([(0, 1), (1, 1)], by=2), bound([1], 1))
        begun = self.begun([bound([1, 1], -1)], lo=[-3, -3, 0])
        self.comes(begun, add_up([(0, 1)], low=[0, 2], high=[1], by=1), bound([2, -1], -1 + 6 + 10))
        self.comes(begun, add_up([(0, 1)], low=[0, 3], high=[1], by=2), bound([1, -1], 9))

    def test_a_c_that_by_does_not_divide(self):
        for k in range(3):
            for factor in (-3, -1, 1, 3, 999):
                self.refused(self.begun([bound(unit(k, factor), 4)]), add_up([(0, 1)], by=2))
        begun = self.begun([bound([4, 4, 4], 4), bound([0, 0, 2], 0)])
        self.comes(begun, add_up([(0, 1)], by=4), bound([1, 1, 1], 1))
        self.refused(begun, add_up([(0, 1), (1, 1)], by=4))
        self.refused(begun, add_up([(0, 1)], by=5))
        self.refused(begun, add_up([(0, 1)], by=8))
        self.refused(begun, add_up([(0, 1)], by=MILLION))

    def test_by_at_its_edges(self):
        begun = self.begun([bound([], 5), bound([1], 5)])
        for by in (0, MILLION + 1, 2147483648, INSIDE):
            self.refused(begun, add_up(by=by))
            self.refused(begun, add_up([(0, 1)], by=by))
            self.refused(begun, add_up([(1, 1)], by=by))
        self.comes(begun, add_up([(0, 1)], by=MILLION), bound([], 0))
        self.comes(begun, add_up([(1, MILLION)], by=MILLION), bound([1], 5))
        self.comes(begun, add_up([(1, 1)], by=1), bound([1], 5))


class GoneBranches(Sums):

    FALSE = bound([], -1)

    def test_the_last_branch(self):
        self.gone(self.begun([self.FALSE]), add_up([(0, 1)]))

    def test_another_stays(self):
        lists = plan(1, somes=made_of([self.FALSE]))
        le, turned = bound([2], 5), bound([-2], -6)
        self.assertEqual(branches(lists, cases(le), some(1), add_up([(1, 1)])), [[turned]])
        self.assertEqual(ask(begin(lists), cases(le), some(1), add_up([(1, 1)]), OPEN, add_up(), some(1),
                             add_up([(2, 1)]), OPEN), [0, 0, 0, 0, 1, 0, 0, 1, 0])

    def test_d_at_zero(self):
        self.comes(self.begun([bound([], 0)]), add_up([(0, 9)]), bound([], 0))
        self.comes(self.begun([bound([1], 5), bound([-1], -5)]), add_up([(0, 1), (1, 1)]), bound([], 0))
        self.gone(self.begun([bound([1], 5), bound([-1], -6)]), add_up([(0, 1), (1, 1)]))
        self.comes(self.begun([bound([], 7)]), add_up([(0, 1)]), bound([], 7))

    def test_any_c_keeps_the_branch(self):
        for k in range(12):
            for factor in (-1, 1):
                one = bound(unit(k, factor), -100)
                self.comes(self.begun([one], 12), add_up([(0, 1)]), one)

    def test_rounded_below_zero(self):
        for by in (1, 2, MILLION):
            self.gone(self.begun([self.FALSE]), add_up([(0, 1)], by=by))
        self.comes(self.begun([bound([], MILLION - 1)]), add_up([(0, 1)], by=MILLION), bound([], 0))

    def test_by_the_bounds_of_the_unknowns(self):
        # x0 + x1 is at most 1, and both are at least 1.
        begun = self.begun([bound([1, 1], 1)], 2, [1, 1], [5, 5])
        self.gone(begun, add_up([(0, 1)], low=[1, 1]))
        # x0 + x1 is at least 11, and both are at most 5.
        begun = self.begun([bound([-1, -1], -11)], 2, [1, 1], [5, 5])
        self.gone(begun, add_up([(0, 1)], high=[1, 1]))
        begun = self.begun([bound([-1, -1], -10)], 2, [1, 1], [5, 5])
        self.comes(begun, add_up([(0, 1)], high=[1, 1]), bound([], 0))

    def test_only_by_dividing(self):
        # 2 x0 - 2 x1 is 1.
        lists = plan(2, somes=made_of([bound([2, -2], 1), bound([-2, 2], -1)]))
        lines = [some(1), some(2), add_up([(0, 1)], by=2), add_up([(1, 1)], by=2)]
        self.assertEqual(branches(lists, *lines)[0][2:], [bound([1, -1], 0), bound([-1, 1], -1)])
        self.assertEqual(ask(begin(lists), *lines, add_up([(2, 1), (3, 1)]), OPEN), [0] * 5 + [1, 0])

    def test_nothing_is_asked_of_it_any_more(self):
        begun = self.begun([self.FALSE]) + [add_up([(0, 1)])]
        told = ask(*begun, add_up([(0, 1)]), add_up(by=0), add_up([(9, 9)]), add_up(), OPEN)
        self.assertEqual(told, [0, 0, 1, -2, -2, -2, -2, 0])


class Refused(Sums):

    def test_how_many_pairs(self):
        begun = self.begun([bound([1], 2)])
        for count in (1, 23, 24):
            self.comes(begun, add_up([(0, 1)] * count), bound([count], 2 * count))
        for count in (25, 26, 28):
            self.refused(begun, add_up([(0, 1)] * count))
            self.refused(begun, add_up([(0, 0)] * count))

    def test_the_24th_pair_counts(self):
        begun = self.begun([bound([1], 2), bound([0, 1], 5)])
        self.comes(begun, add_up([(0, 1)] * 23 + [(1, 1)]), bound([23, 1], 51))
        self.refused(begun, add_up([(0, 1)] * 23 + [(2, 1)]))

    def test_which(self):
        for count in (1, 2, 5):
            begun = self.begun([bound([k], k) for k in range(count)])
            self.comes(begun, add_up([(count - 1, 1)]), bound([count - 1], count - 1))
            for which in (count, count + 1, 2147483648, INSIDE):
                self.refused(begun, add_up([(which, 1)]))
                self.refused(begun, add_up([(which, 0)]))
                self.refused(begun, add_up([(0, 1), (which, 1)]))

    def test_which_in_a_branch_without_bounds(self):
        for which in (0, 1, INSIDE):
            self.refused(self.begun([]), add_up([(which, 1)]))

    def test_which_is_of_the_first_branch(self):
        lists = plan(1, somes=made_of([bound([1], 0)]))
        told = ask(begin(lists), cases(bound([1], 3)), some(1), add_up([(1, 1)]), some(0), add_up([(1, 1)]),
                   add_up([(0, 1)]))
        self.assertEqual(told, [0, 0, 0, 0, 0, -22, 0])

    def test_which_in_a_full_branch(self):
        lists = plan(1, somes=made_of([bound([1], 0), bound([], -1)]))
        begun = [begin(lists)] + [some(1)] * 511 + [some(2)]
        self.assertEqual(ask(*begun, add_up([(512, 1)]), add_up([(511, 1)]), OPEN)[513:], [-22, 1, 0])

    def test_times_at_a_million(self):
        begun = self.begun([bound([], 0), bound([1], 3)])
        self.comes(begun, add_up([(0, MILLION)]), bound([], 0))
        self.comes(begun, add_up([(1, MILLION)], by=MILLION), bound([1], 3))
        self.comes(begun, add_up([(1, MILLION)] * 24, by=MILLION), bound([24], 72))
        for count in (MILLION + 1, 2147483648, INSIDE):
            self.refused(begun, add_up([(0, count)]))
            self.refused(begun, add_up([(0, 1), (0, count)]))
        self.refused(begun, add_up([(1, 2 * MILLION)], by=MILLION))

    def test_low_and_high_at_a_million(self):
        for unknowns in (1, 5, 12):
            begun = self.begun([], unknowns, [0] * unknowns, [0] * unknowns)
            for k in range(unknowns):
                most = unit(k, MILLION)
                self.comes(begun, add_up(low=most, by=MILLION), bound(unit(k, -1), 0))
                self.comes(begun, add_up(high=most, by=MILLION), bound(unit(k), 0))
                self.comes(begun, add_up(low=most, high=most), bound([], 0))
                # The c's come to 0 or to 1, so nothing but the number of times is wrong.
                for count in (MILLION + 1, 2147483648, INSIDE):
                    self.refused(begun, add_up(low=unit(k, count), high=unit(k, count)))
                self.refused(begun, add_up(low=unit(k, MILLION + 1), high=most))
                self.refused(begun, add_up(low=most, high=unit(k, MILLION + 1)))

    def test_zero_behind_the_last_unknown(self):
        for unknowns in (1, 5, 11):
            begun = self.begun([], unknowns)
            self.comes(begun, add_up(low=unit(unknowns - 1)), bound(unit(unknowns - 1, -1), 10))
            for k in range(unknowns, 12):
                for count in (1, MILLION, INSIDE):
                    self.refused(begun, add_up(low=unit(k, count)))
                    self.refused(begun, add_up(high=unit(k, count)))
                    self.refused(begun, add_up(low=unit(k, count), high=unit(k, count)))

    def test_c_at_a_thousand(self):
        for k in (0, 5, 11):
            for sign in (-1, 1):
                begun = self.begun([bound(unit(k, sign), 0), bound(unit(k, sign * 1000), 0)], 12)
                self.comes(begun, add_up([(0, 1000)]), bound(unit(k, sign * 1000), 0))
                self.comes(begun, add_up([(1, 1)]), bound(unit(k, sign * 1000), 0))
                self.comes(begun, add_up([(0, 2000)], by=2), bound(unit(k, sign * 1000), 0))
                self.comes(begun, add_up([(1, 1000)], by=1000), bound(unit(k, sign * 1000), 0))
                self.refused(begun, add_up([(0, 1001)]))
                self.refused(begun, add_up([(0, 2002)], by=2))
                self.refused(begun, add_up([(0, 1), (1, 1)]))

    def test_d_at_its_ends(self):
        for c in ([1], []):
            begun = self.begun([bound(c, 999999), bound(c, -MILLION), bound([], 1), bound([], -1)])
            self.comes(begun, add_up([(0, 1)]), bound(c, 999999))
            self.refused(begun, add_up([(0, 1), (2, 1)]))
            self.refused(begun, add_up([(1, 1), (3, 1)]))
        begun = self.begun([bound([1], -MILLION)])
        self.comes(begun, add_up([(0, 1)]), bound([1], -MILLION))

    def test_d_below_zero_without_c(self):
        begun = self.begun([bound([], -MILLION), bound([], -1)])
        self.gone(begun, add_up([(0, 1)]))
        self.gone(begun, add_up([(1, MILLION)]))
        self.refused(begun, add_up([(0, 1), (1, 1)]))
        self.refused(begun, add_up([(0, 2)]))
        # Divided, it is as told again.
        self.gone(begun, add_up([(0, 2)], by=2))
        self.gone(begun, add_up([(0, MILLION)], by=MILLION))
        self.refused(begun, add_up([(0, MILLION)], by=MILLION - 1))
        self.refused(begun, add_up([(0, 2), (1, 1)], by=2))
        self.gone(begun, add_up([(0, 2), (1, 1)], by=3))

    def test_d_above_without_c(self):
        begun = self.begun([bound([], 999999), bound([], 1)])
        self.comes(begun, add_up([(0, 1)]), bound([], 999999))
        self.comes(begun, add_up([(1, 999999)]), bound([], 999999))
        self.refused(begun, add_up([(1, MILLION)]))
        self.refused(begun, add_up([(0, 1), (1, 1)]))
        self.comes(begun, add_up([(0, 2), (1, 1)], by=2), bound([], 999999))
        self.refused(begun, add_up([(0, 2), (1, 2)], by=2))

    def test_nothing_wrong_is_left_out(self):
        # All that is wrong here alone would be right with the rest.
        begun = self.begun([bound([2], 4)])
        self.comes(begun, add_up([(0, 3)], [2], [4], 2), bound([4], (12 + 20 + 40) // 2))
        for line in (add_up([(1, 3)], [2], [4], 2), add_up([(0, 3)], [2], [4], 0), add_up([(0, 3)], [3], [4], 2),
                     add_up([(0, 3)], [2, 0, 0, 1], [4], 2), add_up([(0, 3)], [2], [4, 0, 0, 1], 2),
                     add_up([(0, 3)] + [(0, 0)] * 24, [2], [4], 2)):
            self.refused(begun, line)


class FullBranch(Sums):

    def full(self, *behind):
        """What is answered behind 512 bounds in the one branch."""
        lists = plan(2, somes=made_of([bound([1], 0), bound([], -1)]))
        told = ask(begin(lists), some(2), *[some(1)] * 511, *behind)
        self.assertEqual(told[:513], [0] * 513)
        return told[513:]

    def test_512_by_sums(self):
        told = tell(begin(plan(2)), *[add_up(high=[1])] * 513, OPEN, holds(511), holds(512))
        self.assertEqual(told, [[0]] * 513 + [[-28], [1], [0] + bound([1], 10), [-2]])

    def test_refused(self):
        self.assertEqual(self.full(add_up(), add_up([(1, 1)]), add_up(high=[1, 1]), OPEN, some(1)),
                         [-28, -28, -28, 1, -28])

    def test_gone(self):
        self.assertEqual(self.full(add_up([(0, 1)]), OPEN, add_up()), [1, 0, -2])

    def test_wrong_input_is_told_first(self):
        self.assertEqual(self.full(add_up(by=0), add_up([(512, 1)]), add_up([(1, 1)], by=2), add_up([(1, 1001)]),
                                   add_up(low=row(0, 0, 1)), OPEN), [-22] * 5 + [1])

    def test_gone_and_wrong(self):
        self.assertEqual(self.full(add_up([(0, MILLION), (0, 1)]), OPEN), [-22, 1])


if __name__ == "__main__":
    unittest.main()
