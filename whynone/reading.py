"""Calls as they stand in one list of whole numbers, one behind another."""


class Call:
    """One call: its number, its whole numbers, its lists, and where the next call begins."""

    def __init__(self, number, wholes, lists, behind):
        self.number = number
        self.wholes = wholes
        self.lists = lists
        self.behind = behind


def read_row(calls, at):
    """The numbers behind the count that stands at at."""
    start = at + 1
    return calls[start:start + calls[at]]


def read_call(calls, at):
    wholes = read_row(calls, at + 1)
    count_at = at + 2 + len(wholes)
    lists = []
    behind = count_at + 1
    while len(lists) < calls[count_at]:
        row = read_row(calls, behind)
        lists.append(row)
        behind += 1 + len(row)
    return Call(calls[at], wholes, lists, behind)


def read_calls(calls):
    """All calls of the list, in order; all eight have the same form."""
    found = []
    at = 0
    while at < len(calls):
        call = read_call(calls, at)
        found.append(call)
        at = call.behind
    return found
