"""The desk: a list of calls is handed in, a list of answers is given back."""

from whynone.bounds import read_bound
from whynone.plans import numbers_meet, plan_as_told, read_plan
from whynone.reading import read_calls
from whynone.reasons import Reasons
from whynone.refusals import NOT_AS_TOLD
from whynone.sums import read_recipe

MEETS = 0
BEGIN = 1
CASES = 2
SOME = 3
LESSON = 4
SUM = 5
HOLDS = 6
OPEN = 7


class NoSuchCall(ValueError):
    """A call whose number the desk doesn't know."""


def meets(plan, x):
    if not plan_as_told(plan):
        return NOT_AS_TOLD
    return 1 if numbers_meet(plan, x) else 0


def answer_line(reasons, call):
    """The number that is answered to one line."""
    wholes = call.wholes
    if call.number == CASES:
        return reasons.cases(read_bound(call.lists[0]))
    if call.number == SOME:
        return reasons.some(wholes[0])
    if call.number == LESSON:
        return reasons.lesson(wholes[0], wholes[1], wholes[2], wholes[3])
    if call.number == SUM:
        return reasons.add_up(read_recipe(wholes[0], call.lists))
    raise NoSuchCall("no such call")


def answer(reasons, call):
    """The numbers that are answered to one call."""
    if call.number == MEETS:
        return [meets(read_plan(call.lists[1:]), call.lists[0])]
    if call.number == BEGIN:
        return [reasons.begin(read_plan(call.lists))]
    if call.number == HOLDS:
        return reasons.holds(call.wholes[0])
    if call.number == OPEN:
        return [reasons.how_many()]
    return [answer_line(reasons, call)]


def answers(calls):
    reasons = Reasons()
    told = []
    for call in read_calls(calls):
        numbers = answer(reasons, call)
        told.append(len(numbers))
        told.extend(numbers)
    return told
