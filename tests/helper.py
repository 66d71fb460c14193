"""Calls written by name for the tests, and their answers call by call."""

from tasklocks.processor import answers

CLEAR = [1]
NOW = [5]
INT_MIN = -2147483648
INT_MAX = 2147483647


def order(by_deadline):
    return [2, by_deadline]


def task(steps, first=0, period=0, deadline=100, rank=0):
    return [3, first, period, deadline, rank, len(steps)] + steps


def run(n):
    return [4, n]


def known(i, which):
    return [6, i, which]


def state(i):
    return [7, i]


def owner(lock):
    return [8, lock]


def take(lock):
    return 20000 + lock


def give(lock):
    return 30000 + lock


def joined(calls):
    return [number for call in calls for number in call]


def split(answered):
    """The answers of each call, from the list in which a count stands before each."""
    rows = []
    place = 0
    while place < len(answered):
        size = answered[place]
        row = answered[place + 1:place + 1 + size]
        if size < 1 or len(row) != size:
            raise ValueError("the counts don't fit the answers")
        rows.append(row)
        place += 1 + size
    return rows


def answer_rows(*calls):
    """What these calls answer, behind an rt_clear of their own whose answer is left out."""
    rows = split(answers(joined([CLEAR] + list(calls))))
    if rows[0] != [0]:
        raise ValueError("rt_clear answers 0")
    return rows[1:]


def rows_behind(tasks, calls, by_deadline=0):
    """What these calls answer once these tasks were told."""
    rows = answer_rows(order(by_deadline), *tasks, *calls)
    told = 1 + len(tasks)
    if rows[:told] != [[0]] + [[number] for number in range(len(tasks))]:
        raise ValueError(f"a task was refused: {rows[:told]}")
    return rows[told:]


def worked(n, tasks, by_deadline=0):
    """Who worked in each of the first n ticks."""
    row = rows_behind(tasks, [run(n)], by_deadline)[0]
    if row[0] != 0:
        raise ValueError("rt_run was refused")
    return row[1:]


def asked_behind(ticks, tasks, calls, by_deadline=0):
    """The one number that each of these calls answers behind so many ticks."""
    rows = rows_behind(tasks, [run(ticks)] + calls, by_deadline)[1:]
    if any(len(row) != 1 for row in rows):
        raise ValueError(f"more than one number was answered: {rows}")
    return [row[0] for row in rows]


def asked_over_time(call, ticks, tasks, by_deadline=0):
    """The one number that this call answers ahead of tick 0, and behind each of so many ticks run one by one."""
    rows = rows_behind(tasks, [call] + [run(1), call] * ticks, by_deadline)[::2]
    if any(len(row) != 1 for row in rows):
        raise ValueError(f"more than one number was answered: {rows}")
    return [row[0] for row in rows]
