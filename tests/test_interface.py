"""The interface: how calls are handed in, and how answers are given back."""

import contextlib
import io
import unittest

from tests.helper import OPEN, add_up, begin, bound, call, cases, holds, joined, lesson, meets, plan, row, some, tell
from whynone import desk
from whynone.reading import read_calls

LISTS = plan(2, facts=[(1, 0, 0, 0, 1), (4, 1, 0, 0, 1)], somes=[[], [bound([1], 0), bound([0, 1], 0)]])
LE = bound([1], 0)
# All eight calls one behind another, with each refusal among them.
MANY_ANSWERED = [
    (meets(LISTS, (0, 0)), [0]), (begin(LISTS), [0]), (OPEN, [1]), (holds(0), [-2]), (cases(LE), [0]),
    (holds(0), [0] + LE), (some(1), [0]), (lesson(1, 0, 0), [0]), (OPEN, [5]), (lesson(1, 0, 1), [-22]),
    (holds(2), [0] + bound([], -1)), (add_up([(0, 1)], [0, 1], [0, 1], 1), [0]), (holds(3), [0] + bound([1], 20)),
    (add_up(by=0), [-22]), (add_up([(2, 1)]), [0]), (OPEN, [4]), (some(7), [-22]), (some(0), [0]), (some(0), [0]),
    (holds(1), [0] + bound([0, 1], 0)), (some(0), [0]), (some(0), [1]), (OPEN, [0]), (some(0), [-2]),
    (lesson(1, 0, 0), [-2]), (add_up(), [-2]), (cases(LE), [-2]), (holds(0), [-2]), (meets(plan(0), ()), [-22]),
    (begin(plan(0)), [-22]), (OPEN, [0]), (begin(LISTS), [0]), (OPEN, [1])]
MANY = joined([asked for asked, answered in MANY_ANSWERED])


class Answers(unittest.TestCase):

    def test_the_empty_list(self):
        self.assertEqual(desk.answers([]), [])

    def test_written_out(self):
        x = [1] + [0] * 11
        numbers = [1] + [0] * 12 + [5] + [0] * 11
        le = [1] + [0] * 11 + [0]
        asked = [0, 0, 3, 12] + x + [25] + numbers + [0]
        self.assertEqual(desk.answers(asked), [1, 1])
        asked = [0, 0, 4, 12] + x + [25] + numbers + [5, 1, 0, 0, 0, 0, 13] + le
        self.assertEqual(desk.answers(asked), [1, 0])
        asked = [1, 0, 4, 25] + numbers + [0, 0, 26] + le + le + [2, 0, 1, 13] + le + [3, 1, 1, 0, 3, 1, 2, 0, 3, 1, 0, 0]
        self.assertEqual(desk.answers(asked), [1, 0, 1, 0, 1, 0, 1, -22, 1, 0])

    def test_all_eight_written_out(self):
        zeros = [0] * 10
        x = [1, 1] + zeros
        numbers = [2] + [0] * 12 + [3, 3] + zeros
        facts = [1, 0, 0, 0, 1, 1, 0, 1, 0, 0]
        first = [1, 1] + zeros + [2] + [1, -1] + zeros + [-2]
        asked = [0, 0, 4, 12] + x + [25] + numbers + [10] + facts + [26] + first
        asked += [1, 0, 3, 25] + numbers + [10] + facts + [26] + first
        asked += [2, 0, 1, 13, 1, 0] + zeros + [1]
        asked += [3, 1, 0, 0]
        asked += [4, 4, 1, 0, 1, 0, 0]
        # Three times bound 1, x1 is at least 0 three times and x0 at most 3 once: 4 x0 is at most 9.
        asked += [5, 1, 2, 3, 12, 0, 3] + zeros + [12, 1, 0] + zeros + [2, 1, 3]
        asked += [6, 1, 3, 0]
        asked += [6, 1, 4, 0]
        asked += [7, 0, 0]
        told = [1, 1, 1, 0, 1, 0, 1, 0, 1, 0, 1, 0] + [14, 0, 2, 0] + zeros + [4] + [1, -2] + [1, 5]
        self.assertEqual(desk.answers(asked), told)

    def test_several_calls(self):
        self.assertEqual(desk.answers(MANY), joined([[len(answered)] + answered for asked, answered in MANY_ANSWERED]))

    def test_each_call_is_answered_as_one_of_several(self):
        self.assertEqual(tell(*[asked for asked, answered in MANY_ANSWERED]),
                         [answered for asked, answered in MANY_ANSWERED])

    def test_kinds_of_what_is_given_back(self):
        told = desk.answers(MANY)
        self.assertIs(type(told), list)
        self.assertEqual({type(number) for number in told}, {int})

    def test_what_is_handed_in_stays(self):
        handed = list(MANY)
        desk.answers(handed)
        self.assertEqual(handed, MANY)

    def test_it_is_never_written_to(self):
        class Kept(list):
            def refuse(self, *told):
                raise AssertionError("what is handed in was changed")
            append = extend = insert = pop = remove = clear = sort = reverse = refuse
            __setitem__ = __delitem__ = __iadd__ = __imul__ = refuse

        self.assertEqual(desk.answers(Kept(MANY)), desk.answers(MANY))

    def test_nothing_is_kept(self):
        first = desk.answers(MANY)
        desk.answers(joined([begin(LISTS), some(0)]))
        self.assertEqual(desk.answers(MANY), first)
        first.append(5)
        self.assertEqual(desk.answers(MANY), first[:-1])

    def test_each_list_is_about_a_new_object(self):
        long = joined([begin(LISTS)] + [some(1)] * 500)
        for turn in range(2):
            self.assertEqual(desk.answers(long), [1, 0] * 501)
        self.assertEqual(desk.answers(joined([begin(LISTS), some(0), some(0)])), [1, 0, 1, 1, 1, -2])

    def test_it_prints_nothing(self):
        out, err = io.StringIO(), io.StringIO()
        with contextlib.redirect_stdout(out), contextlib.redirect_stderr(err):
            desk.answers(MANY)
        self.assertEqual(out.getvalue() + err.getvalue(), "")

    def test_as_long_as_it_may_be(self):
        short = plan(1, [0], [1])
        asked = joined([meets(short, (k % 3,)) for k in range(697)])
        self.assertLessEqual(len(asked), 30000)
        self.assertEqual(desk.answers(asked), joined([[1, 0 if k % 3 == 2 else 1] for k in range(697)]))

    def test_700_calls(self):
        six = plan(1, [0], [1], somes=[[bound([1], 0)] * 6])
        self.assertEqual(desk.answers(joined([begin(six)] + [some(0)] * 699)), [1, 0] * 513 + [1, -28] * 187)

    def test_700_calls_that_make_branches(self):
        lists = plan(2, facts=[(2, 0, 0, 0, 1)])
        told = tell(begin(lists), *[lesson(1, 0, 0)] * 600, *[add_up()] * 49, *[holds(511)] * 49, OPEN)
        self.assertEqual(told, [[0]] * 513 + [[-28]] * (88 + 49) + [[0] + bound([], -1)] * 49 + [[1 + 4 * 512]])

    def test_a_number_that_is_no_call(self):
        with self.assertRaises(desk.NoSuchCall):
            desk.answers(call(8))


class Reading(unittest.TestCase):

    def test_all_eight_forms(self):
        le = bound([1], 5)
        eight = [(0, [], [row(1, 2)] + LISTS), (1, [], LISTS), (2, [], [le]), (3, [9], []), (4, [1, 2, 3, 4], []),
                 (5, [6], [row(1), row(2), [0, 1, 1, 4294967295]]), (6, [3], []), (7, [], [])]
        asked = joined([call(number, wholes, lists) for number, wholes, lists in eight])
        found = [(one.number, one.wholes, one.lists) for one in read_calls(asked)]
        self.assertEqual(found, eight)


if __name__ == "__main__":
    unittest.main()
