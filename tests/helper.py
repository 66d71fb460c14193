"""Calls written by name for the tests, and their answers call by call."""

from tasklocks.processor import answers

CLEAR = [1]
INT_MIN = -2147483648
INT_MAX = 2147483647


def order(by_deadline):
    return [2, by_deadline]


def task(steps, first=0, period=0, deadline=100, rank=0):
    return [3, first, period, deadline, rank, len(steps)] + steps


def run(n):
    return [4, n]


def take(lock):
    return 20000 + lock


def give(lock):
    return 30000 + lock


def joined(calls):
    return [number for call in calls for number in call]


def split(answered):
    """The answers of each call, from the list in which a count stands before each."""
    rows = []
    place = 0
    while place < len(answered):
        size = answered[place]
        row = answered[place + 1:place + 1 + size]
        if size < 1 or len(row) != size:
            raise ValueError("the counts don't fit the answers")
        rows.append(row)
        place += 1 + size
    return rows


def answer_rows(*calls):
    """What these calls answer, behind an rt_clear of their own whose answer is left out."""
    rows = split(answers(joined([CLEAR] + list(calls))))
    if rows[0] != [0]:
        raise ValueError("rt_clear answers 0")
    return rows[1:]


def worked(n, tasks, by_deadline=0):
    """Who worked in each of the first n ticks."""
    rows = answer_rows(order(by_deadline), *tasks, run(n))
    if rows[:-1] != [[0]] + [[number] for number in range(len(tasks))]:
        raise ValueError(f"a task was refused: {rows[:-1]}")
    if rows[-1][0] != 0:
        raise ValueError("rt_run was refused")
    return rows[-1][1:]
