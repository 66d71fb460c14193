"""Promise 7: rt_state."""

import unittest

from tests.helper import (
    CLEAR, INT_MAX, INT_MIN, answer_rows, asked_behind, asked_over_time, give, order, rows_behind, run, state, take,
    task,
)

# With a task 2 that comes at 2 with rank 9 and takes lock 1: task 1 waits for lock 0 from tick 1 on, task 2 for lock 1
# from tick 2 on. In tick 3 task 0 gives lock 0 back, but works on, for task 2, more urgent than task 1, waits for it.
GIVEN_BACK_UNSEEN = [
    task([take(0), take(1), 3, give(0), 2, give(1)], rank=1),
    task([take(0), 1, give(0)], first=1, rank=5),
]


class Refusals(unittest.TestCase):
    def test_no_such_task(self):
        for i in (-1, -2, 2, 3, 32, INT_MIN, INT_MAX):
            self.assertEqual(asked_behind(1, [task([9])] * 2, [state(i)]), [-1], i)

    def test_no_task_at_all(self):
        rows = answer_rows(state(0), state(-1), task([0]), state(0), run(1), state(0))
        self.assertEqual(rows, [[-1], [-1], [-3], [-1], [0, 255], [-1]])

    def test_32_tasks(self):
        asked = asked_behind(1, [task([9])] * 32, [state(0), state(31), state(32)])
        self.assertEqual(asked, [1, 1, -1])

    def test_the_tasks_before_a_clear_are_no_more(self):
        rows = answer_rows(task([9]), run(1), state(0), CLEAR, state(0), task([9]), state(0))
        self.assertEqual(rows[2:], [[1], [0], [-1], [0], [0]])


class NoJob(unittest.TestCase):
    def test_ahead_of_any_tick(self):
        self.assertEqual(rows_behind([task([1])], [state(0), run(0), state(0)]), [[0], [0], [0]])

    def test_ahead_of_a_job_and_behind_its_end(self):
        self.assertEqual(asked_over_time(state(0), 6, [task([2], first=2)]), [0, 0, 0, 1, 0, 0, 0])

    def test_between_two_jobs(self):
        self.assertEqual(asked_over_time(state(0), 8, [task([2], period=4)]), [0, 1, 0, 0, 0, 1, 0, 0, 0])

    def test_behind_the_tick_in_which_the_last_lock_is_given_back(self):
        self.assertEqual(asked_over_time(state(0), 4, [task([take(0), 2, give(0)])]), [0, 2, 2, 0, 0])


class Able(unittest.TestCase):
    def test_without_a_lock_at_work_or_not(self):
        self.assertEqual(asked_behind(2, [task([9]), task([9])], [state(0), state(1)]), [1, 1])

    def test_with_a_lock_at_work_or_not(self):
        tasks = [task([take(0), 9, give(0)], rank=1), task([take(1), 9, give(1)], first=1, rank=2)]
        self.assertEqual(asked_behind(2, tasks, [state(0), state(1)]), [2, 2])

    def test_with_several_locks_until_the_last_is_given_back(self):
        steps = [take(3), 1, take(15), 1, give(3), 1, give(15), 2]
        self.assertEqual(asked_over_time(state(0), 6, [task([1] + steps)]), [0, 1, 2, 2, 2, 1, 0])

    def test_with_a_lock_that_is_to_be_given_back_next(self):
        tasks = [task([take(0), 1, give(0)], rank=1), task([2], first=1, rank=9)]
        self.assertEqual(asked_over_time(state(0), 5, tasks), [0, 2, 2, 2, 0, 0])

    def test_one_whose_next_step_was_not_looked_at_does_not_wait(self):
        tasks = [task([take(0), 3, give(0)], rank=9), task([take(0), 1, give(0)], rank=1)]
        self.assertEqual(asked_over_time(state(1), 5, tasks), [0, 1, 1, 1, 2, 0])

    def test_each_task_of_its_own(self):
        tasks = [task([take(0), 9, give(0)], rank=1), task([9], first=1, rank=2), task([9], first=5)]
        self.assertEqual(asked_behind(2, tasks, [state(0), state(1), state(2)]), [2, 1, 0])

    def test_late_or_not(self):
        self.assertEqual(asked_over_time(state(0), 5, [task([4], deadline=1)]), [0, 1, 1, 1, 0, 0])


class NotAble(unittest.TestCase):
    def test_while_another_has_the_lock(self):
        tasks = [task([take(0), 3, give(0), 1], rank=1), task([take(0), 2, give(0), 1], first=1, rank=9)]
        self.assertEqual(asked_over_time(state(1), 7, tasks), [0, 0, 3, 3, 2, 2, 0, 0])
        self.assertEqual(asked_over_time(state(0), 7, tasks), [0, 2, 2, 2, 1, 1, 1, 0])

    def test_by_deadline(self):
        tasks = [task([take(0), 3, give(0)], deadline=50), task([take(0), 2, give(0)], first=1, deadline=5)]
        self.assertEqual(asked_over_time(state(1), 6, tasks, 1), [0, 0, 3, 3, 2, 2, 0])

    def test_also_with_a_lock_of_its_own(self):
        tasks = [task([take(0), 3, give(0)], rank=1), task([take(1), 1, take(0), 1, give(0), give(1)], first=1, rank=9)]
        self.assertEqual(asked_over_time(state(1), 6, tasks), [0, 0, 2, 3, 3, 2, 0])

    def test_those_that_wait_for_one_that_waits(self):
        tasks = [
            task([take(0), 9, give(0)], rank=1),
            task([take(1), take(0), 1, give(0), give(1)], first=1, rank=2),
            task([take(1), 1, give(1)], first=2, rank=3),
        ]
        self.assertEqual(asked_behind(3, tasks, [state(0), state(1), state(2)]), [2, 3, 3])

    def test_able_again_once_the_lock_was_given_back_and_nobody_has_taken_it_yet(self):
        tasks = GIVEN_BACK_UNSEEN + [task([take(1), 1, give(1)], first=2, rank=9)]
        self.assertEqual(asked_over_time(state(1), 8, tasks), [0, 0, 3, 3, 1, 1, 1, 2, 0])
        self.assertEqual(asked_over_time(state(2), 8, tasks), [0, 0, 0, 3, 3, 3, 2, 0, 0])

    def test_able_again_with_a_lock_of_its_own(self):
        tasks = GIVEN_BACK_UNSEEN + [task([take(1), 1, give(1)], first=2, rank=9)]
        tasks[1] = task([take(2), take(0), 1, give(0), give(2)], first=1, rank=5)
        self.assertEqual(asked_over_time(state(1), 8, tasks), [0, 0, 3, 3, 2, 2, 2, 2, 0])

    def test_not_able_once_more_when_another_has_taken_it(self):
        tasks = GIVEN_BACK_UNSEEN + [task([take(1), take(0), 2, give(0), give(1)], first=2, rank=9)]
        self.assertEqual(asked_over_time(state(1), 9, tasks), [0, 0, 3, 3, 1, 1, 3, 3, 2, 0])

    def test_in_a_ring_each(self):
        tasks = [
            task([take(0), 1, take(1), 1, give(1), give(0)], rank=1),
            task([take(1), 1, take(0), 1, give(0), give(1)], first=1, rank=5),
            task([take(0), 1, give(0)], first=3, rank=9),
            task([5], first=3),
        ]
        asked = [state(0), state(1), state(2), state(3)]
        self.assertEqual(asked_behind(2, tasks, asked), [2, 2, 0, 0])
        self.assertEqual(asked_behind(3, tasks, asked), [3, 3, 0, 0])
        self.assertEqual(asked_behind(4, tasks, asked), [3, 3, 3, 1])
        self.assertEqual(asked_behind(2000, tasks, asked), [3, 3, 3, 0])

    def test_in_a_ring_of_three(self):
        tasks = [
            task([take(k), 1, take((k + 1) % 3), 1, give((k + 1) % 3), give(k)], first=k, rank=k + 1) for k in range(3)
        ]
        self.assertEqual(asked_behind(3, tasks, [state(0), state(1), state(2)]), [2, 2, 2])
        self.assertEqual(asked_behind(4, tasks, [state(0), state(1), state(2)]), [3, 3, 3])


class Unchanged(unittest.TestCase):
    def test_asking_and_refused_calls_change_nothing(self):
        tasks = [task([take(0), 3, give(0)], rank=1), task([take(0), 1, give(0)], first=1, rank=9)]
        refused = [run(-1), run(100001), order(1), task([1]), state(2), state(-1)]
        asked = [state(0), state(1)]
        rows = rows_behind(tasks, [run(2)] + asked + refused + asked + [run(3)])
        self.assertEqual(rows, [[0, 0, 0], [2], [3]] + [[-1]] * 6 + [[2], [3], [0, 0, 1, 255]])


if __name__ == "__main__":
    unittest.main()
