"""Promises 1 and 2: begin, cases and some, and what they do to the branches."""

import unittest

from tests.helper import ask, begin, bound, cases, meets, plan, row, some, unit
from whynone.bounds import read_bound
from whynone.plans import read_plan
from whynone.reasons import Reasons

LE = bound([1], 0)
# Some 0 takes the first branch away, some 1 puts one bound behind it, some 2 makes six of it.
PLAN = plan(2, somes=[[], [LE], [bound([1, 1], d) for d in range(6)]])
BAD_PLAN = plan(0)
GONE = some(0)
LONGER = some(1)
SIX = some(2)


class Begin(unittest.TestCase):

    def test_answers(self):
        self.assertEqual(ask(begin(PLAN), begin(BAD_PLAN)), [0, -22])

    def test_refused_first_then_begun(self):
        self.assertEqual(ask(begin(BAD_PLAN), begin(PLAN), GONE), [-22, 0, 1])

    def test_at_first_there_is_one_branch(self):
        self.assertEqual(ask(begin(PLAN), GONE, GONE), [0, 1, -2])

    def test_at_first_it_has_no_bounds(self):
        self.assertEqual(ask(begin(PLAN), *[LONGER] * 513), [0] * 513 + [-28])

    def test_again_when_nothing_is_left(self):
        self.assertEqual(ask(begin(PLAN), GONE, GONE, begin(PLAN), GONE, GONE), [0, 1, -2, 0, 1, -2])

    def test_again_when_there_are_many(self):
        self.assertEqual(ask(begin(PLAN), SIX, SIX, begin(PLAN), GONE, GONE), [0, 0, 0, 0, 1, -2])

    def test_again_when_the_branch_is_long(self):
        asked = [begin(PLAN)] + [LONGER] * 300
        self.assertEqual(ask(*asked + asked), [0] * 602)

    def test_again_with_another_plan(self):
        other = plan(1, somes=[[LE]])
        le = bound([0, 1], 0)
        self.assertEqual(ask(begin(PLAN), cases(le), some(2), begin(other), cases(le), some(2), some(0)),
                         [0, 0, 0, 0, -22, -22, 0])

    def test_refused_changes_no_branch(self):
        self.assertEqual(ask(begin(PLAN), SIX, begin(BAD_PLAN), *[GONE] * 7), [0, 0, -22] + [0] * 5 + [1, -2])
        self.assertEqual(ask(begin(PLAN), GONE, begin(BAD_PLAN), GONE), [0, 1, -22, -2])

    def test_refused_changes_no_plan(self):
        bad = plan(1, [1], [0], somes=[[]] * 4)
        self.assertEqual(ask(begin(PLAN), begin(bad), cases(bound([0, 1], 0)), some(3), some(2)), [0, -22, 0, -22, 0])

    def test_refused_keeps_the_bounds(self):
        asked = [begin(PLAN)] + [LONGER] * 512
        self.assertEqual(ask(*asked + [begin(BAD_PLAN), LONGER]), [0] * 513 + [-22, -28])

    def test_meets_changes_nothing(self):
        other = plan(1, somes=[[]])
        self.assertEqual(ask(begin(PLAN), SIX, meets(other, ()), meets(BAD_PLAN, ()), SIX, *[GONE] * 12),
                         [0, 0, 0, -22, 0] + [0] * 10 + [1, -2])


class Cases(unittest.TestCase):

    def test_two_instead_of_one(self):
        self.assertEqual(ask(begin(PLAN), cases(LE), GONE, GONE, GONE), [0, 0, 0, 1, -2])
        self.assertEqual(ask(begin(PLAN), cases(LE), cases(LE), GONE, GONE, GONE, GONE), [0, 0, 0, 0, 0, 1, -2])

    def test_no_branch(self):
        self.assertEqual(ask(begin(PLAN), GONE, cases(LE), cases(LE)), [0, 1, -2, -2])

    def test_no_branch_comes_before_a_wrong_bound(self):
        self.assertEqual(ask(begin(PLAN), GONE, cases(bound([1001], 0))), [0, 1, -2])

    def test_a_bound_without_unknowns(self):
        for d in (-1000000, -1, 0, 999999):
            self.assertEqual(ask(begin(PLAN), cases(bound([], d)), GONE, GONE), [0, 0, 0, 1])

    def refused(self, lists, le):
        self.assertEqual(ask(begin(lists), cases(le), GONE, GONE), [0, -22, 1, -2])

    def done(self, lists, le):
        self.assertEqual(ask(begin(lists), cases(le), GONE, GONE), [0, 0, 0, 1])

    def test_c_within_a_thousand(self):
        lists = plan(12, somes=[[]])
        for k in (0, 6, 11):
            for factor in (-1000, -1, 1, 1000):
                self.done(lists, bound(unit(k, factor), 0))
            for factor in (-2147483648, -1001, 1001, 2147483647):
                self.refused(lists, bound(unit(k, factor), 0))

    def test_c_is_zero_behind_the_last(self):
        for unknowns in (1, 6, 11):
            lists = plan(unknowns, somes=[[]])
            self.done(lists, bound(unit(unknowns - 1), 0))
            for k in range(unknowns, 12):
                self.refused(lists, bound(unit(k, 1), 0))
                self.refused(lists, bound(unit(k, -1), 0))

    def test_d(self):
        for c in ([], [1, -1]):
            for d in (-1000000, -1, 0, 999999):
                self.done(PLAN, bound(c, d))
            for d in (-2147483648, -1000001, 1000000, 2147483647):
                self.refused(PLAN, bound(c, d))


class Some(unittest.TestCase):

    def test_as_many_as_it_has_bounds(self):
        for count in range(1, 7):
            lists = plan(2, somes=[[], [LE] * count])
            self.assertEqual(ask(begin(lists), some(1), *[GONE] * (count + 1)), [0, 0] + [0] * (count - 1) + [1, -2])

    def test_without_bounds(self):
        self.assertEqual(ask(begin(PLAN), GONE), [0, 1])
        self.assertEqual(ask(begin(PLAN), SIX, GONE, SIX, *[GONE] * 11), [0] * 13 + [1, -2])

    def test_a_bound_without_unknowns(self):
        lists = plan(1, somes=[[], [bound([], -1)]])
        self.assertEqual(ask(begin(lists), some(1), GONE, GONE), [0, 0, 1, -2])

    def test_there_is_no_such_some(self):
        for count in (0, 1, 3, 32):
            lists = plan(1, somes=[[LE]] * count)
            for p in (count, count + 1, 4294967295):
                self.assertEqual(ask(begin(lists), some(p)), [0, -22])
            if count:
                self.assertEqual(ask(begin(lists), some(count - 1)), [0, 0])

    def test_refused_changes_nothing(self):
        self.assertEqual(ask(begin(PLAN), some(3), GONE, GONE), [0, -22, 1, -2])
        self.assertEqual(ask(begin(PLAN), SIX, some(3), *[GONE] * 7), [0, 0, -22] + [0] * 5 + [1, -2])

    def test_no_branch(self):
        self.assertEqual(ask(begin(PLAN), GONE, some(0), some(1), some(2)), [0, 1, -2, -2, -2])

    def test_no_branch_comes_before_no_such_some(self):
        self.assertEqual(ask(begin(PLAN), GONE, some(3)), [0, 1, -2])


class FullBranch(unittest.TestCase):

    def full(self, *behind):
        """What is answered behind 512 bounds in the one branch."""
        answers = ask(begin(PLAN), *[LONGER] * 512, *behind)
        self.assertEqual(answers[:513], [0] * 513)
        return answers[513:]

    def test_512_by_cases(self):
        asked = [begin(PLAN)] + [cases(LE)] * 513
        self.assertEqual(ask(*asked), [0] * 513 + [-28])

    def test_512_by_both(self):
        asked = [begin(PLAN)] + [cases(LE), LONGER] * 256
        self.assertEqual(ask(*asked + [cases(LE), LONGER, SIX]), [0] * 513 + [-28] * 3)

    def test_refused_changes_nothing(self):
        self.assertEqual(self.full(LONGER, cases(LE), SIX, LONGER, GONE, GONE), [-28, -28, -28, -28, 1, -2])

    def test_a_some_without_bounds_takes_it_away(self):
        self.assertEqual(self.full(GONE), [1])

    def test_wrong_input_is_told_first(self):
        self.assertEqual(self.full(some(3), cases(bound([1001], 0))), [-22, -22])

    def test_the_last_step_to_512(self):
        asked = [begin(PLAN)] + [LONGER] * 511
        self.assertEqual(ask(*asked + [SIX, SIX, LONGER, cases(LE)]), [0] * 513 + [-28] * 3)

    def test_only_the_first_branch_counts(self):
        # After 512 cases the branches have 512, 512, 511, 510 .. bounds.
        asked = [begin(PLAN)] + [cases(LE)] * 512
        behind = [LONGER, GONE, LONGER, GONE, LONGER, LONGER, GONE, LONGER, LONGER, LONGER]
        self.assertEqual(ask(*asked + behind)[513:], [-28, 0, -28, 0, 0, -28, 0, 0, 0, -28])


class Branches(unittest.TestCase):
    """What stands in the branches, in order."""

    def begun(self, *somes):
        reasons = Reasons()
        self.assertEqual(reasons.begin(read_plan(plan(2, somes=somes))), 0)
        return reasons

    def written(self, reasons):
        return [[le.c + [le.d] for le in branch] for branch in reasons.branches]

    def test_at_first(self):
        self.assertEqual(self.written(self.begun()), [[]])

    def test_cases_and_the_opposite(self):
        for c, d in (([3, -2], 7), ([], 0), ([1000, -1000], 999999), ([0, 1], -1000000)):
            reasons = self.begun()
            self.assertEqual(reasons.cases(read_bound(bound(c, d))), 0)
            turned = bound([-factor for factor in c], -d - 1)
            self.assertEqual(self.written(reasons), [[bound(c, d)], [turned]])

    def test_the_opposite_is_a_bound_as_told(self):
        for d in (-1000000, 999999):
            reasons = self.begun()
            reasons.cases(read_bound(bound([1000], d)))
            second = reasons.branches[1][0]
            self.assertEqual(reasons.cases(second), 0)

    def test_some_in_order(self):
        bounds = [bound([k, -k], d) for k, d in ((1, 5), (2, -5), (3, 0))]
        reasons = self.begun(bounds)
        self.assertEqual(reasons.some(0), 0)
        self.assertEqual(self.written(reasons), [[one] for one in bounds])

    def test_behind_the_first_branch_alone(self):
        one, two, le = bound([1], 1), bound([2], 2), bound([3], 3)
        turned = bound([-3], -4)
        reasons = self.begun([one, two], [])
        reasons.cases(read_bound(le))
        reasons.some(0)
        self.assertEqual(self.written(reasons), [[le, one], [le, two], [turned]])
        reasons.cases(read_bound(le))
        self.assertEqual(self.written(reasons), [[le, one, le], [le, one, turned], [le, two], [turned]])
        reasons.some(1)
        self.assertEqual(self.written(reasons), [[le, one, turned], [le, two], [turned]])

    def test_refusals_change_nothing(self):
        reasons = self.begun([LE], [])
        reasons.cases(read_bound(LE))
        before = self.written(reasons)
        self.assertEqual(reasons.cases(read_bound(bound([0, 1001], 0))), -22)
        self.assertEqual(reasons.some(2), -22)
        self.assertEqual(reasons.begin(read_plan(BAD_PLAN)), -22)
        self.assertEqual(self.written(reasons), before)

    def test_what_meets_the_plan_stays_in_a_branch(self):
        somes = [[bound([1, 1], -3), bound([-1, 2], 4), bound([2, -1], 0)], [bound([1], 2), bound([0, -1], -4)]]
        lists = plan(2, somes=somes)
        reasons = self.begun(*somes)
        for line in (lambda: reasons.some(0), lambda: reasons.cases(read_bound(bound([3, 5], 1))),
                     lambda: reasons.some(1)):
            self.assertEqual(line(), 0)
            for x in range(-10, 11):
                for y in range(-10, 11):
                    if ask(meets(lists, (x, y))) == [1]:
                        self.assertTrue(self.in_a_branch(reasons, row(x, y)))

    def in_a_branch(self, reasons, x):
        return any(all(sum(a * b for a, b in zip(le.c, x)) <= le.d for le in branch) for branch in reasons.branches)


if __name__ == "__main__":
    unittest.main()
