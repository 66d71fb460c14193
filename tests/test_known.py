"""Promise 6: rt_known."""

import unittest

from tests.helper import (
    CLEAR, INT_MAX, INT_MIN, answer_rows, asked_behind, asked_over_time, give, known, order, rows_behind, run, take,
    task,
)

DONE = 0
MISSED = 1
LEFT_OUT = 2
LONGEST = 3


def known_behind(ticks, tasks, by_deadline=0):
    """For each task jobs done, missed deadlines, jobs left out and the longest, behind so many ticks."""
    calls = [known(i, which) for i in range(len(tasks)) for which in range(4)]
    numbers = asked_behind(ticks, tasks, calls, by_deadline)
    return [numbers[4 * i:4 * i + 4] for i in range(len(tasks))]


class Refusals(unittest.TestCase):
    def test_no_such_task(self):
        for i in (-1, -2, 2, 3, 32, INT_MIN, INT_MAX):
            for which in range(4):
                self.assertEqual(asked_behind(3, [task([1])] * 2, [known(i, which)]), [-1], (i, which))

    def test_no_task_at_all(self):
        rows = answer_rows(known(0, 0), known(-1, 0), task([0]), known(0, 0), run(1), known(0, 0))
        self.assertEqual(rows, [[-1], [-1], [-3], [-1], [0, 255], [-1]])

    def test_32_tasks(self):
        asked = asked_behind(2, [task([1], rank=i) for i in range(32)], [known(i, DONE) for i in (0, 29, 30, 31, 32)])
        self.assertEqual(asked, [0, 0, 1, 1, -1])

    def test_no_such_number(self):
        for which in (-1, -4, 4, 5, INT_MIN, INT_MAX):
            rows = answer_rows(task([1]), known(0, which), run(2), known(0, which), known(1, which))
            self.assertEqual(rows, [[0], [-1], [0, 0, 255], [-1], [-1]], which)

    def test_the_tasks_before_a_clear_are_no_more(self):
        rows = answer_rows(task([1]), run(1), known(0, DONE), CLEAR, known(0, DONE), task([1]), known(0, DONE))
        self.assertEqual(rows[2:], [[1], [0], [-1], [0], [0]])


class AheadOfAnyTick(unittest.TestCase):
    def test_all_are_0(self):
        for by_deadline in (0, 1):
            self.assertEqual(known_behind(0, [task([1], period=1, deadline=1)] * 2, by_deadline), [[0] * 4] * 2)

    def test_all_are_0_ahead_of_the_first_coming(self):
        self.assertEqual(known_behind(5, [task([1], first=5, deadline=1)]), [[0] * 4])


class Done(unittest.TestCase):
    def test_work_at_the_end_at_the_next_tick(self):
        tasks = [task([3], first=2)]
        self.assertEqual(asked_over_time(known(0, DONE), 7, tasks), [0, 0, 0, 0, 0, 1, 1, 1])
        self.assertEqual(asked_over_time(known(0, LONGEST), 7, tasks), [0, 0, 0, 0, 0, 3, 3, 3])

    def test_a_lock_given_back_at_the_end_at_this_tick(self):
        # Work ends in tick 3, and the lock is given back in tick 4, which is run as the fifth.
        tasks = [task([take(0), 2, give(0)], first=2)]
        self.assertEqual(asked_over_time(known(0, DONE), 6, tasks), [0, 0, 0, 0, 0, 1, 1])
        self.assertEqual(asked_over_time(known(0, LONGEST), 6, tasks), [0, 0, 0, 0, 0, 2, 2])

    def test_a_lock_taken_and_given_back_at_the_end(self):
        tasks = [task([2, take(0), give(0)])]
        self.assertEqual(asked_over_time(known(0, DONE), 4, tasks), [0, 0, 0, 1, 1])
        self.assertEqual(asked_over_time(known(0, LONGEST), 4, tasks), [0, 0, 0, 2, 2])

    def test_work_behind_the_lock_is_work_at_the_end(self):
        tasks = [task([take(0), 1, give(0), 1])]
        self.assertEqual(asked_over_time(known(0, DONE), 3, tasks), [0, 0, 1, 1])
        self.assertEqual(asked_over_time(known(0, LONGEST), 3, tasks), [0, 0, 2, 2])

    def test_ticks_in_which_others_work_count(self):
        tasks = [task([2], rank=1), task([3], first=1, rank=9)]
        self.assertEqual(known_behind(9, tasks), [[1, 0, 0, 5], [1, 0, 0, 3]])

    def test_ticks_until_it_may_give_back_count(self):
        # Task 1 works in the ticks 1 to 3, and task 0 gives the lock back in tick 4.
        tasks = [task([take(0), 1, give(0)], rank=1), task([3], first=1, rank=9)]
        self.assertEqual(asked_over_time(known(0, DONE), 6, tasks), [0, 0, 0, 0, 0, 1, 1])
        self.assertEqual(known_behind(6, tasks), [[1, 0, 0, 4], [1, 0, 0, 3]])

    def test_ticks_in_which_it_waits_count(self):
        tasks = [task([take(0), 4, give(0), 1], rank=1), task([take(0), 1, give(0), 1], first=1, rank=9)]
        self.assertEqual(known_behind(9, tasks), [[1, 0, 0, 7], [1, 0, 0, 5]])

    def test_every_job_counts(self):
        self.assertEqual(known_behind(1, [task([1], period=1)]), [[1, 0, 0, 1]])
        self.assertEqual(known_behind(2000, [task([1], period=1)]), [[2000, 0, 0, 1]])
        self.assertEqual(known_behind(20, [task([2], first=1, period=4)]), [[5, 0, 0, 2]])
        self.assertEqual(known_behind(18, [task([2], first=1, period=4)]), [[4, 0, 0, 2]])

    def test_the_longest_is_not_the_last(self):
        # Task 1 holds up the job that comes at 0, then the one that comes at 20.
        held_up = task([1], period=10, rank=1)
        tasks = [held_up, task([4], rank=9)]
        self.assertEqual(asked_over_time(known(0, LONGEST), 25, tasks), [0] * 5 + [5] * 21)
        tasks = [held_up, task([4], first=20, rank=9)]
        self.assertEqual(asked_over_time(known(0, LONGEST), 25, tasks), [0] + [1] * 24 + [5])

    def test_one_that_is_not_done_is_not_the_longest(self):
        self.assertEqual(known_behind(9, [task([10])]), [[0, 0, 0, 0]])
        self.assertEqual(known_behind(50, [task([1]), task([60], rank=1)]), [[0, 0, 0, 0]] * 2)


class Missed(unittest.TestCase):
    def test_told_in_the_tick_that_is_the_deadline_and_once(self):
        self.assertEqual(asked_over_time(known(0, MISSED), 8, [task([6], deadline=3)]), [0, 0, 0, 0, 1, 1, 1, 1, 1])

    def test_from_the_tick_the_job_came(self):
        tasks = [task([6], first=7, deadline=3)]
        self.assertEqual(asked_over_time(known(0, MISSED), 13, tasks), [0] * 11 + [1] * 3)

    def test_not_where_work_ends_ahead_of_the_deadline(self):
        self.assertEqual(known_behind(9, [task([3], deadline=3)]), [[1, 0, 0, 3]])
        self.assertEqual(known_behind(9, [task([4], deadline=3)]), [[1, 1, 0, 4]])
        self.assertEqual(known_behind(9, [task([1], deadline=1)]), [[1, 0, 0, 1]])
        self.assertEqual(known_behind(9, [task([2], deadline=1)]), [[1, 1, 0, 2]])

    def test_also_where_the_last_lock_is_given_back_in_the_tick_of_the_deadline(self):
        steps = [take(0), 3, give(0)]
        self.assertEqual(known_behind(9, [task(steps, deadline=3)]), [[1, 1, 0, 3]])
        self.assertEqual(known_behind(9, [task(steps, deadline=4)]), [[1, 0, 0, 3]])

    def test_one_that_never_works(self):
        tasks = [task([1], deadline=5), task([100], rank=1)]
        self.assertEqual(asked_over_time(known(0, MISSED), 9, tasks), [0] * 6 + [1] * 4)

    def test_one_that_waits(self):
        tasks = [task([take(0), 50, give(0)], rank=1), task([take(0), 1, give(0)], first=1, deadline=4, rank=9)]
        self.assertEqual(asked_over_time(known(1, MISSED), 9, tasks), [0] * 6 + [1] * 4)

    def test_those_that_wait_in_a_ring(self):
        tasks = [
            task([take(0), 1, take(1), 1, give(1), give(0)], deadline=6, rank=1),
            task([take(1), 1, take(0), 1, give(0), give(1)], deadline=7, first=1, rank=5),
        ]
        self.assertEqual(asked_over_time(known(0, MISSED), 10, tasks), [0] * 7 + [1] * 4)
        self.assertEqual(asked_over_time(known(1, MISSED), 10, tasks), [0] * 9 + [1] * 2)
        self.assertEqual(known_behind(2000, tasks), [[0, 1, 0, 0]] * 2)

    def test_several_in_one_tick(self):
        tasks = [task([9], deadline=4), task([9], first=1, deadline=3), task([9], first=2, deadline=2)]
        self.assertEqual([row[MISSED] for row in known_behind(4, tasks)], [0, 0, 0])
        self.assertEqual([row[MISSED] for row in known_behind(5, tasks)], [1, 1, 1])

    def test_once_for_each_job(self):
        tasks = [task([4], period=5, deadline=3)]
        self.assertEqual([known_behind(n, tasks)[0][MISSED] for n in (3, 4, 8, 9, 13, 14, 18, 19, 23)],
                         [0, 1, 1, 2, 2, 3, 3, 4, 4])

    def test_those_left_out_miss_nothing(self):
        self.assertEqual(known_behind(10, [task([10], period=3, deadline=1)]), [[1, 1, 3, 10]])

    def test_the_next_job_may_be_in_time(self):
        # Task 1 holds up the first job alone.
        tasks = [task([1], period=10, deadline=2, rank=1), task([4], rank=9)]
        self.assertEqual(known_behind(40, tasks)[0], [4, 1, 0, 5])

    def test_the_greatest_deadline(self):
        told = [task([10000], deadline=1000000), task([10000] * 64, rank=1), task([10000] * 64, rank=1)]
        rows = rows_behind(told, [run(100000)] * 10 + [known(0, MISSED), run(1), known(0, MISSED)])
        self.assertEqual(rows[10:], [[0], [0, 2], [1]])

    def test_a_late_one_goes_on(self):
        self.assertEqual(known_behind(5, [task([5], deadline=1)]), [[1, 1, 0, 5]])


class LeftOut(unittest.TestCase):
    def test_in_the_tick_of_the_coming_and_not_ahead_of_it(self):
        self.assertEqual(asked_over_time(known(0, LEFT_OUT), 7, [task([4], period=3)]), [0, 0, 0, 0, 1, 1, 1, 1])

    def test_several_for_one_job(self):
        self.assertEqual(asked_over_time(known(0, LEFT_OUT), 9, [task([7], period=2)]), [0, 0, 0, 1, 1, 2, 2, 3, 3, 3])
        self.assertEqual(known_behind(2000, [task([3000], period=1)]), [[0, 1, 1999, 0]])

    def test_over_several_jobs(self):
        self.assertEqual(known_behind(6, [task([3], period=1)]), [[2, 0, 4, 3]])
        self.assertEqual(known_behind(24, [task([4], period=3)]), [[4, 0, 4, 4]])

    def test_none_where_work_ends_just_ahead_of_the_coming(self):
        self.assertEqual(known_behind(20, [task([4], period=4)]), [[5, 0, 0, 4]])

    def test_one_where_the_lock_is_given_back_in_the_tick_of_the_coming(self):
        tasks = [task([take(0), 2, give(0)], period=2)]
        self.assertEqual(asked_over_time(known(0, LEFT_OUT), 5, tasks), [0, 0, 0, 1, 1, 1])
        self.assertEqual(asked_over_time(known(0, DONE), 5, tasks), [0, 0, 0, 1, 1, 1])

    def test_one_that_has_not_worked_yet_keeps_the_next_out(self):
        self.assertEqual(known_behind(8, [task([1], period=2), task([5], rank=1)])[0], [2, 0, 2, 6])

    def test_period_0_leaves_none_out(self):
        self.assertEqual(known_behind(500, [task([1000], period=0)]), [[0, 1, 0, 0]])


class Order(unittest.TestCase):
    def test_the_same_by_rank_and_by_deadline(self):
        for by_deadline in (0, 1):
            self.assertEqual(known_behind(24, [task([4], period=3, deadline=2)], by_deadline), [[4, 4, 4, 4]])
            self.assertEqual(known_behind(9, [task([take(0), 3, give(0)], deadline=3)], by_deadline), [[1, 1, 0, 3]])

    def test_what_follows_from_who_works(self):
        tasks = [task([2], deadline=2, rank=1), task([2], deadline=4, rank=9)]
        self.assertEqual(known_behind(9, tasks, by_deadline=0), [[1, 1, 0, 4], [1, 0, 0, 2]])
        self.assertEqual(known_behind(9, tasks, by_deadline=1), [[1, 0, 0, 2], [1, 0, 0, 4]])

    def test_by_deadline_one_that_is_late_is_told_once(self):
        tasks = [task([1], deadline=9, first=1), task([20], deadline=8)]
        self.assertEqual(asked_over_time(known(0, MISSED), 20, tasks, 1), [0] * 11 + [1] * 10)
        self.assertEqual(asked_over_time(known(1, MISSED), 20, tasks, 1), [0] * 9 + [1] * 12)


class InOneCallOrInSeveral(unittest.TestCase):
    TASKS = [
        task([take(0), 3, give(0), 1], period=9, deadline=7, rank=1),
        task([2], first=2, period=5, deadline=2, rank=2),
        task([take(0), 1, give(0)], first=1, period=2, deadline=3, rank=3),
    ]

    def test_the_same(self):
        calls = [known(i, which) for i in range(3) for which in range(4)]
        for by_deadline in (0, 1):
            whole = rows_behind(self.TASKS, [run(60)] + calls, by_deadline)[1:]
            for size in (1, 2, 3, 7, 59):
                runs = [run(size)] * (60 // size) + [run(60 % size)]
                rows = rows_behind(self.TASKS, runs + calls, by_deadline)
                self.assertEqual(rows[len(runs):], whole, size)

    def test_refused_calls_and_0_ticks_change_nothing(self):
        calls = [known(0, which) for which in range(4)]
        refused = [run(-1), run(100001), run(0), order(1), task([1]), known(1, 0), known(0, 4)]
        rows = rows_behind([task([3], period=2, deadline=2)], [run(3)] + calls + refused + calls)
        self.assertEqual(rows[1:5], [[1], [1], [1], [3]])
        self.assertEqual(rows[5:12], [[-1], [-1], [0], [-1], [-1], [-1], [-1]])
        self.assertEqual(rows[12:], rows[1:5])


if __name__ == "__main__":
    unittest.main()
