"""The interface: how calls are handed in, and how answers are given back."""

import contextlib
import io
import unittest

from tests.helper import begin, bound, call, cases, joined, meets, plan, row, some
from whynone import desk
from whynone.reading import read_calls

LISTS = plan(2, facts=[(1, 0, 0, 0, 1), (4, 1, 0, 0, 1)], somes=[[], [bound([1], 0), bound([0, 1], 0)]])
MANY = joined([meets(LISTS, (0, 0)), begin(LISTS), cases(bound([1], 0)), some(1), some(7), some(0), some(0), some(0),
               some(0), meets(plan(0), ()), begin(plan(0)), begin(LISTS)])
MANY_ANSWERED = [0, 0, 0, 0, -22, 0, 0, 1, -2, -22, -22, 0]


class Answers(unittest.TestCase):

    def test_the_empty_list(self):
        self.assertEqual(desk.answers([]), [])

    def test_written_out(self):
        x = [1] + [0] * 11
        numbers = [1] + [0] * 12 + [5] + [0] * 11
        le = [1] + [0] * 11 + [0]
        asked = [0, 0, 3, 12] + x + [25] + numbers + [0]
        self.assertEqual(desk.answers(asked), [1, 1])
        asked = [0, 0, 4, 12] + x + [25] + numbers + [5, 1, 0, 0, 0, 0, 13] + le
        self.assertEqual(desk.answers(asked), [1, 0])
        asked = [1, 0, 4, 25] + numbers + [0, 0, 26] + le + le + [2, 0, 1, 13] + le + [3, 1, 1, 0, 3, 1, 2, 0, 3, 1, 0, 0]
        self.assertEqual(desk.answers(asked), [1, 0, 1, 0, 1, 0, 1, -22, 1, 0])

    def test_several_calls(self):
        self.assertEqual(desk.answers(MANY), joined([[1, answer] for answer in MANY_ANSWERED]))

    def test_kinds_of_what_is_given_back(self):
        told = desk.answers(MANY)
        self.assertIs(type(told), list)
        self.assertEqual({type(number) for number in told}, {int})

    def test_what_is_handed_in_stays(self):
        handed = list(MANY)
        desk.answers(handed)
        self.assertEqual(handed, MANY)

    def test_it_is_never_written_to(self):
        class Kept(list):
            def refuse(self, *told):
                raise AssertionError("what is handed in was changed")
            append = extend = insert = pop = remove = clear = sort = reverse = refuse
            __setitem__ = __delitem__ = __iadd__ = __imul__ = refuse

        self.assertEqual(desk.answers(Kept(MANY)), desk.answers(MANY))

    def test_nothing_is_kept(self):
        first = desk.answers(MANY)
        desk.answers(joined([begin(LISTS), some(0)]))
        self.assertEqual(desk.answers(MANY), first)
        first.append(5)
        self.assertEqual(desk.answers(MANY), first[:-1])

    def test_each_list_is_about_a_new_object(self):
        long = joined([begin(LISTS)] + [some(1)] * 500)
        for turn in range(2):
            self.assertEqual(desk.answers(long), [1, 0] * 501)
        self.assertEqual(desk.answers(joined([begin(LISTS), some(0), some(0)])), [1, 0, 1, 1, 1, -2])

    def test_it_prints_nothing(self):
        out, err = io.StringIO(), io.StringIO()
        with contextlib.redirect_stdout(out), contextlib.redirect_stderr(err):
            desk.answers(MANY)
        self.assertEqual(out.getvalue() + err.getvalue(), "")

    def test_as_long_as_it_may_be(self):
        short = plan(1, [0], [1])
        asked = joined([meets(short, (k % 3,)) for k in range(697)])
        self.assertLessEqual(len(asked), 30000)
        self.assertEqual(desk.answers(asked), joined([[1, 0 if k % 3 == 2 else 1] for k in range(697)]))

    def test_700_calls(self):
        six = plan(1, [0], [1], somes=[[bound([1], 0)] * 6])
        self.assertEqual(desk.answers(joined([begin(six)] + [some(0)] * 699)), [1, 0] * 513 + [1, -28] * 187)

    def test_a_number_that_is_no_call(self):
        with self.assertRaises(desk.NoSuchCall):
            desk.answers(call(8))


class Reading(unittest.TestCase):

    def test_all_eight_forms(self):
        le = bound([1], 5)
        eight = [(0, [], [row(1, 2)] + LISTS), (1, [], LISTS), (2, [], [le]), (3, [9], []), (4, [1, 2, 3, 4], []),
                 (5, [6], [row(1), row(2), [0, 1, 1, 4294967295]]), (6, [3], []), (7, [], [])]
        asked = joined([call(number, wholes, lists) for number, wholes, lists in eight])
        found = [(one.number, one.wholes, one.lists) for one in read_calls(asked)]
        self.assertEqual(found, eight)


if __name__ == "__main__":
    unittest.main()
