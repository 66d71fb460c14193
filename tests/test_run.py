"""Promise 4: rt_run, and who works."""

import unittest

from tasklocks.scheduler import Scheduler
from tests.helper import INT_MAX, INT_MIN, answer_rows, give, order, run, take, task, worked


class HowMany(unittest.TestCase):
    def test_refused_numbers(self):
        for n in (-1, -2000, INT_MIN, 100001, 100002, INT_MAX):
            self.assertEqual(answer_rows(run(n)), [[-1]], n)

    def test_a_refused_run_does_nothing(self):
        rows = answer_rows(task([2]), run(-1), run(100001), order(0), task([1]), run(1), run(-3), run(100001), run(3))
        self.assertEqual(rows, [[0], [-1], [-1], [0], [1], [0, 0], [-1], [-1], [0, 0, 1, 255]])

    def test_0_ticks(self):
        self.assertEqual(answer_rows(task([2]), run(0), run(1), run(0), run(2)), [[0], [0], [0, 0], [0], [0, 0, 255]])

    def test_2000_ticks(self):
        self.assertEqual(worked(2000, [task([1500], first=100)]), [255] * 100 + [0] * 1500 + [255] * 400)

    def test_100000_ticks(self):
        self.assertEqual(worked(100000, [task([1], period=2)]), [0, 255] * 50000)

    def test_at_most_1000000000_ticks_in_all(self):
        scheduler = Scheduler()
        scheduler.now = 999999998
        self.assertEqual(scheduler.run(3), [-1])
        self.assertEqual(scheduler.run(100000), [-1])
        self.assertEqual(scheduler.now, 999999998)
        self.assertEqual(scheduler.run(2), [0, 255, 255])
        self.assertEqual(scheduler.run(1), [-1])
        self.assertEqual(scheduler.run(0), [0])

    def test_in_one_call_or_in_several(self):
        tasks = [
            task([take(0), 3, give(0), 1], period=9, rank=1),
            task([2], first=2, period=5, rank=2),
            task([take(0), 1, give(0)], first=1, period=7, rank=3),
        ]
        whole = worked(60, tasks)
        for size in (1, 2, 3, 7, 59):
            runs = [run(size)] * (60 // size) + [run(60 % size)]
            rows = answer_rows(*tasks, *runs)[3:]
            self.assertEqual([number for row in rows for number in row[1:]], whole, size)


class Comings(unittest.TestCase):
    def test_nobody_works_where_there_is_no_job(self):
        self.assertEqual(worked(3, []), [255, 255, 255])

    def test_first(self):
        self.assertEqual(worked(3, [task([1], first=0)]), [0, 255, 255])
        self.assertEqual(worked(3, [task([1], first=2)]), [255, 255, 0])

    def test_period_0_comes_once(self):
        self.assertEqual(worked(6, [task([2], first=1, period=0)]), [255, 0, 0, 255, 255, 255])

    def test_every_period_ticks(self):
        self.assertEqual(worked(9, [task([1], first=1, period=3)]), [255, 0, 255, 255, 0, 255, 255, 0, 255])
        self.assertEqual(worked(3, [task([1], period=1)]), [0, 0, 0])

    def test_work_that_ends_just_ahead_of_the_next_coming(self):
        self.assertEqual(worked(7, [task([2], period=2), task([9])]), [0] * 7)
        self.assertEqual(worked(6, [task([2], period=2), task([9], rank=1, first=5)]), [0, 0, 0, 0, 0, 1])

    def test_left_out_while_the_one_before_is_not_done(self):
        self.assertEqual(worked(12, [task([4], period=3)]), [0, 0, 0, 0, 255, 255] * 2)
        self.assertEqual(worked(12, [task([3], period=2)]), [0, 0, 0, 255] * 3)

    def test_one_that_has_not_worked_yet_is_not_done_either(self):
        tasks = [task([1], period=2), task([5], rank=1)]
        self.assertEqual(worked(8, tasks), [1, 1, 1, 1, 1, 0, 0, 255])

    def test_work_steps_behind_one_another(self):
        self.assertEqual(worked(7, [task([1, 2, 3])]), [0] * 6 + [255])
        self.assertEqual(worked(65, [task([1] * 64)]), [0] * 64 + [255])


class Urgency(unittest.TestCase):
    def test_by_rank_the_greater_goes_first(self):
        tasks = [task([3], rank=1), task([1], first=1, rank=2)]
        self.assertEqual(worked(5, tasks), [0, 1, 0, 0, 255])
        tasks = [task([3], rank=255), task([1], first=1, rank=254)]
        self.assertEqual(worked(5, tasks), [0, 0, 0, 1, 255])

    def test_by_rank_deadlines_count_for_nothing(self):
        self.assertEqual(worked(2, [task([1], deadline=1, rank=3), task([1], deadline=9, rank=4)]), [1, 0])

    def test_by_deadline_the_earlier_goes_first(self):
        tasks = [task([3], deadline=10, rank=9), task([1], first=1, deadline=5, rank=1)]
        self.assertEqual(worked(5, tasks, by_deadline=1), [0, 1, 0, 0, 255])
        self.assertEqual(worked(5, tasks, by_deadline=0), [0, 0, 0, 1, 255])

    def test_a_deadline_is_told_from_the_tick_the_job_came(self):
        tasks = [task([5], deadline=5), task([1], first=3, deadline=4)]
        self.assertEqual(worked(7, tasks, by_deadline=1), [0, 0, 0, 0, 0, 1, 255])

    def test_the_next_job_has_a_later_deadline(self):
        # Task 0 has its deadlines at 3, 6, 9, 12; task 1 at 8.
        tasks = [task([1], period=3, deadline=3), task([7], deadline=8)]
        self.assertEqual(worked(11, tasks, by_deadline=1), [0, 1, 1, 0, 1, 1, 1, 1, 1, 0, 255])

    def test_a_missed_deadline_goes_on(self):
        tasks = [task([4], deadline=1), task([1], deadline=2), task([1], first=3, deadline=1)]
        self.assertEqual(worked(7, tasks, by_deadline=1), [0, 0, 0, 0, 1, 2, 255])

    def test_as_urgent_by_rank_the_lowest_number(self):
        self.assertEqual(worked(4, [task([1], rank=7), task([1], rank=7), task([1], rank=7)]), [0, 1, 2, 255])
        tasks = [task([2], first=2, rank=5), task([4], rank=5)]
        self.assertEqual(worked(6, tasks), [1, 1, 0, 0, 1, 1])

    def test_as_urgent_by_deadline_the_lowest_number(self):
        tasks = [task([1], first=1, deadline=4), task([2], deadline=5)]
        self.assertEqual(worked(4, tasks, by_deadline=1), [1, 0, 1, 255])


class Locks(unittest.TestCase):
    def test_waiting_for_a_lock(self):
        tasks = [task([take(0), 3, give(0), 1], rank=1), task([take(0), 1, give(0)], first=1, rank=9)]
        self.assertEqual(worked(6, tasks), [0, 0, 0, 1, 0, 255])

    def test_other_locks_are_not_waited_for(self):
        tasks = [task([take(14), 3, give(14)], rank=1), task([take(15), 1, give(15)], first=1, rank=9)]
        self.assertEqual(worked(5, tasks), [0, 1, 0, 0, 255])

    def test_lock_15_is_waited_for(self):
        tasks = [task([take(15), 3, give(15)], rank=1), task([take(15), 1, give(15)], first=1, rank=9)]
        self.assertEqual(worked(5, tasks), [0, 0, 0, 1, 255])

    def test_a_lock_is_taken_only_when_its_step_is_reached(self):
        tasks = [task([2, take(0), 2, give(0)], rank=1), task([take(0), 1, give(0)], first=1, rank=9)]
        self.assertEqual(worked(6, tasks), [0, 1, 0, 0, 0, 255])

    def test_locks_taken_and_given_back_take_no_time(self):
        self.assertEqual(worked(3, [task([take(0), give(0), take(1), 1, give(1), take(0), 1, give(0)])]), [0, 0, 255])

    def test_urgency_goes_on_to_the_one_that_has_the_lock(self):
        tasks = [
            task([take(0), 3, give(0), 1], rank=1),
            task([3], first=2, rank=5),
            task([take(0), 1, give(0)], first=1, rank=9),
        ]
        self.assertEqual(worked(9, tasks), [0, 0, 0, 2, 1, 1, 1, 0, 255])

    def test_urgency_goes_on_by_deadline(self):
        tasks = [
            task([take(0), 3, give(0), 1], deadline=90, rank=9),
            task([3], first=2, deadline=50, rank=9),
            task([take(0), 1, give(0)], first=1, deadline=20),
        ]
        self.assertEqual(worked(9, tasks, by_deadline=1), [0, 0, 0, 2, 1, 1, 1, 0, 255])

    def test_urgency_goes_on_over_several_that_wait(self):
        tasks = [
            task([take(0), 4, give(0)], rank=1),
            task([take(1), 1, take(0), 1, give(0), give(1)], first=1, rank=3),
            task([take(1), 1, give(1)], first=3, rank=9),
            task([2], first=3, rank=5),
        ]
        self.assertEqual(worked(10, tasks), [0, 1, 0, 0, 0, 1, 2, 3, 3, 255])

    def test_urgency_goes_on_over_sixteen_that_wait(self):
        # Task k comes at tick k, has lock k, and waits for lock k - 1 when it has worked; task 16 begins no work.
        tasks = [task([take(0), 2, give(0)], rank=1)]
        for k in range(1, 16):
            tasks.append(task([take(k), 1, take(k - 1), 1, give(k - 1), give(k)], first=k, rank=k + 1))
        tasks.append(task([take(15), 1, give(15)], first=16, rank=200))
        tasks.append(task([1], first=16, rank=100))
        expected = list(range(16)) + [0] + list(range(1, 16)) + [16, 17, 255]
        self.assertEqual(worked(35, tasks), expected)

    def test_the_greatest_of_several_that_wait_for_one(self):
        tasks = [
            task([take(0), take(1), 3, give(0), give(1)], rank=1),
            task([take(0), 1, give(0)], first=1, rank=8),
            task([take(1), 1, give(1)], first=1, rank=4),
            task([2], first=2, rank=6),
        ]
        self.assertEqual(worked(8, tasks), [0, 0, 0, 1, 3, 3, 2, 255])

    def test_urgency_falls_when_the_lock_is_given_back(self):
        tasks = [
            task([take(0), 2, give(0), 2], rank=1),
            task([1], first=2, rank=5),
            task([take(0), 1, give(0)], first=1, rank=9),
        ]
        self.assertEqual(worked(7, tasks), [0, 0, 2, 1, 0, 0, 255])

    def test_as_urgent_by_what_went_on_the_lowest_number(self):
        tasks = [
            task([1], first=2, rank=5),
            task([take(0), 3, give(0)], rank=1),
            task([take(0), 1, give(0)], first=1, rank=5),
        ]
        self.assertEqual(worked(6, tasks), [1, 1, 0, 1, 2, 255])

    def test_as_urgent_ones_wait_for_one_lock(self):
        tasks = [
            task([take(0), 1, give(0)], first=2, rank=5),
            task([take(0), 1, give(0)], first=1, rank=5),
            task([take(0), 3, give(0)], rank=1),
        ]
        self.assertEqual(worked(6, tasks), [2, 2, 2, 0, 1, 255])

    def test_the_most_urgent_gets_the_lock_not_the_one_that_waited_longest(self):
        tasks = [
            task([take(0), 2, give(0)], rank=1),
            task([take(0), 1, give(0)], first=1, rank=5),
            task([2, take(0), 1, give(0)], first=2, rank=9),
        ]
        self.assertEqual(worked(7, tasks), [0, 0, 2, 2, 2, 1, 255])

    def test_nobody_works_where_jobs_wait_in_a_ring(self):
        tasks = [
            task([take(0), 1, take(1), 1, give(1), give(0)], rank=1),
            task([take(1), 1, take(0), 1, give(0), give(1)], first=1, rank=5),
            task([1], first=4, rank=0),
            task([take(0), 1, give(0)], first=3, rank=9),
        ]
        self.assertEqual(worked(8, tasks), [0, 1, 255, 255, 2, 255, 255, 255])


class GivenBackAtTheEnd(unittest.TestCase):
    def test_the_job_is_done_in_the_tick_in_which_it_gives_back(self):
        # At ticks 2 and 6 the lock is still had when jobs come, so the coming there is left out.
        self.assertEqual(worked(9, [task([take(0), 2, give(0)], period=2)]), [0, 0, 255, 255] * 2 + [0])

    def test_two_given_back_in_one_tick(self):
        steps = [take(0), take(1), 2, give(1), give(0)]
        self.assertEqual(worked(6, [task(steps, period=3)]), [0, 0, 255, 0, 0, 255])

    def test_another_works_in_that_tick(self):
        tasks = [task([take(0), 1, give(0)], rank=2), task([take(0), 2, give(0)], rank=1)]
        self.assertEqual(worked(4, tasks), [0, 1, 1, 255])

    def test_one_that_is_not_chosen_gives_nothing_back(self):
        # Task 0 is at its last step from tick 1 on and not chosen before 4, so its comings at 2 and 4 are left out.
        tasks = [task([take(0), 1, give(0)], period=2, rank=1), task([3], first=1, rank=9)]
        self.assertEqual(worked(9, tasks), [0, 1, 1, 1, 255, 255, 0, 255, 0])


if __name__ == "__main__":
    unittest.main()
