"""Promise 3: holds and open."""

import unittest

from tests.helper import OPEN, add_up, ask, begin, bound, cases, holds, lesson, meets, plan, some, tell

INSIDE = 4294967295
ONE, TWO = bound([1, -2], 3), bound([0, 5], -6)
# Some 0 takes a branch away, 1 puts a bound behind it, 2 makes two of it.
LISTS = plan(2, facts=[(1, 0, 0, 0, 1), (2, 0, 0, 0, 1)], somes=[[], [ONE], [ONE, TWO]])
BAD_PLAN = plan(0)


class Holds(unittest.TestCase):

    def told(self, *calls):
        return tell(begin(LISTS), *calls)[1:]

    def test_at_first_no_bound(self):
        self.assertEqual(self.told(holds(0), holds(1), holds(INSIDE)), [[-2]] * 3)

    def test_the_bound(self):
        self.assertEqual(self.told(some(1), holds(0)), [[0], [0] + ONE])

    def test_thirteen_numbers_more(self):
        every = [7, -8, 9, -10, 11, -12, 13, -14, 15, -16, 17, -18, 19]
        lists = plan(12, somes=[[every]])
        self.assertEqual(tell(begin(lists), some(0), holds(0)), [[0], [0], [0] + every])

    def test_numbers_at_their_ends(self):
        for d in (-1000000, 999999):
            one = bound([1000, -1000], d)
            self.assertEqual(self.told(cases(one), holds(0)), [[0], [0] + one])

    def test_in_their_order(self):
        turned = bound([1, -2], 9)
        told = self.told(some(1), cases(TWO), cases(turned), *[holds(k) for k in (2, 0, 1, 3)])
        self.assertEqual(told[3:], [[0] + turned, [0] + ONE, [0] + TWO, [-2]])

    def test_not_more_than_k(self):
        for count in range(4):
            told = self.told(*[some(1)] * count, *[holds(k) for k in (count, count + 1, 2147483648, INSIDE)])
            self.assertEqual(told[count:], [[-2]] * 4)
            if count:
                self.assertEqual(self.told(*[some(1)] * count, holds(count - 1))[count], [0] + ONE)

    def test_512_bounds(self):
        told = self.told(*[some(1)] * 511, cases(TWO), holds(0), holds(510), holds(511), holds(512), holds(INSIDE))
        self.assertEqual(told[512:], [[0] + ONE, [0] + ONE, [0] + TWO, [-2], [-2]])

    def test_no_branch(self):
        self.assertEqual(self.told(some(0), holds(0), holds(1), holds(INSIDE)), [[1], [-2], [-2], [-2]])
        self.assertEqual(self.told(some(1), some(0), holds(0)), [[0], [1], [-2]])

    def test_of_the_first_branch(self):
        told = self.told(some(1), some(2), holds(1), some(0), holds(0), holds(1), holds(2), some(0), holds(0))
        self.assertEqual(told, [[0], [0], [0] + ONE, [0], [0] + ONE, [0] + TWO, [-2], [1], [-2]])

    def test_it_changes_nothing(self):
        asked = [some(1), some(2)]
        looked = [holds(0), holds(1), holds(2), OPEN]
        told = self.told(*asked, *looked * 3)[2:]
        self.assertEqual(told, [[0] + ONE, [0] + ONE, [-2], [2]] * 3)

    def test_begun_anew(self):
        self.assertEqual(self.told(some(1), begin(LISTS), holds(0)), [[0], [0], [-2]])
        self.assertEqual(self.told(some(1), begin(BAD_PLAN), holds(0)), [[0], [-22], [0] + ONE])


class Open(unittest.TestCase):

    def told(self, *calls):
        return ask(begin(LISTS), *calls)[1:]

    def test_at_first_one(self):
        self.assertEqual(self.told(OPEN, OPEN), [1, 1])

    def test_each_line(self):
        self.assertEqual(self.told(cases(ONE), OPEN), [0, 2])
        self.assertEqual(self.told(some(1), OPEN), [0, 1])
        self.assertEqual(self.told(some(2), OPEN), [0, 2])
        self.assertEqual(self.told(lesson(1, 0, 0), OPEN), [0, 3])
        self.assertEqual(self.told(lesson(1, 1, 1), OPEN), [0, 5])
        self.assertEqual(self.told(add_up(high=[1]), OPEN), [0, 1])
        self.assertEqual(self.told(some(0), OPEN), [1, 0])

    def test_counted_over_several_lines(self):
        told = self.told(lesson(1, 1, 1), OPEN, cases(ONE), OPEN, some(0), OPEN, some(2), OPEN, add_up(), OPEN)
        self.assertEqual(told, [0, 5, 0, 6, 0, 5, 0, 6, 0, 6])

    def test_down_to_none(self):
        self.assertEqual(self.told(cases(ONE), some(0), OPEN, some(0), OPEN, OPEN), [0, 0, 1, 1, 0, 0])

    def test_refusals_change_nothing(self):
        refused = [cases(bound([1001], 0)), some(3), lesson(1, 0, 1), add_up(by=0), begin(BAD_PLAN)]
        for line in refused:
            self.assertEqual(self.told(cases(ONE), line, OPEN, meets(LISTS, ()), OPEN), [0, -22, 2, 0, 2])

    def test_begun_anew(self):
        self.assertEqual(self.told(cases(ONE), begin(LISTS), OPEN, some(0), begin(LISTS), OPEN), [0, 0, 1, 1, 0, 1])

    def test_many(self):
        told = self.told(*[lesson(1, 1, 1)] * 512, lesson(1, 1, 1), OPEN)
        self.assertEqual(told, [0] * 512 + [-28, 1 + 4 * 512])


class NothingChanges(unittest.TestCase):
    """A refusal leaves all branches, bound by bound, as they were."""

    def seen(self, *calls):
        """The branches, each told bound by bound and then taken away."""
        looked = [OPEN] + ([holds(k) for k in range(4)] + [some(0)]) * 3 + [OPEN]
        return tell(begin(LISTS), some(1), cases(TWO), some(2), *calls, *looked)[4 + len(calls):]

    def test_each_line(self):
        untouched = self.seen()
        self.assertEqual(untouched[0], [3])
        wrong = [cases(bound([0, 0, 1], 0)), cases(bound([1], 1000000)), some(3), lesson(1, 0, 1), lesson(1, 2, 0),
                 lesson(5, 0, 0), lesson(1, 0, 0, 1), add_up([(3, 1)]), add_up([(0, 1)], by=3),
                 add_up([(0, 1000)]), add_up(low=[0, 0, 1]), add_up([(0, 1)] * 25)]
        for line in wrong:
            self.assertEqual(tell(begin(LISTS), some(1), cases(TWO), some(2), line)[-1], [-22])
            self.assertEqual(self.seen(line), untouched)
            self.assertEqual(self.seen(line, line, line), untouched)
        self.assertEqual(self.seen(*wrong), untouched)

    def test_each_line_in_a_full_branch(self):
        begun = [begin(LISTS)] + [some(1)] * 511 + [cases(TWO)]
        looked = [OPEN, holds(0), holds(511), holds(512), some(0), holds(511), holds(512), some(0), OPEN]
        untouched = tell(*begun, *looked)[len(begun):]
        for line in (cases(TWO), some(1), some(2), lesson(1, 0, 0), lesson(1, 1, 1), add_up(), add_up([(0, 1)])):
            told = tell(*begun, line, *looked)[len(begun):]
            self.assertEqual(told, [[-28]] + untouched)

    def test_each_line_without_a_branch(self):
        for line in (cases(TWO), some(0), some(1), lesson(1, 0, 0), add_up()):
            self.assertEqual(ask(begin(LISTS), some(0), line, OPEN, holds(0), begin(LISTS), OPEN),
                             [0, 1, -2, 0, -2, 0, 1])


if __name__ == "__main__":
    unittest.main()
