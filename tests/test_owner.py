"""Promise 7: rt_owner."""

import unittest

from tests.helper import (
    CLEAR, INT_MAX, INT_MIN, answer_rows, asked_behind, asked_over_time, give, order, owner, rows_behind, run, take,
    task,
)

ALL_LOCKS = [owner(lock) for lock in range(16)]


class Refusals(unittest.TestCase):
    def test_no_such_lock(self):
        holder = task([take(0), take(15), 9, give(15), give(0)])
        for lock in (-1, -2, -16, 16, 17, INT_MIN, INT_MAX):
            self.assertEqual(answer_rows(owner(lock)), [[-1]], lock)
            self.assertEqual(asked_behind(1, [holder], [owner(lock)]), [-1], lock)


class Nobody(unittest.TestCase):
    def test_without_tasks(self):
        self.assertEqual(answer_rows(*ALL_LOCKS), [[0]] * 16)

    def test_ahead_of_any_tick(self):
        self.assertEqual(asked_behind(0, [task([take(0), 1, give(0)])], ALL_LOCKS), [0] * 16)

    def test_until_the_step_is_reached(self):
        self.assertEqual(asked_over_time(owner(0), 6, [task([2, take(0), 2, give(0)], first=1)]), [0, 0, 0, 0, 1, 1, 0])

    def test_taken_and_given_back_in_one_tick(self):
        self.assertEqual(asked_over_time(owner(0), 3, [task([take(0), give(0), 2])]), [0, 0, 0, 0])

    def test_when_rt_clear_comes_again(self):
        holder = task([take(7), 9, give(7)])
        self.assertEqual(answer_rows(holder, run(1), owner(7), CLEAR, owner(7)), [[0], [0, 0], [1], [0], [0]])


class Somebody(unittest.TestCase):
    def test_the_number_and_1(self):
        tasks = [task([take(lock), 9, give(lock)], first=lock, rank=lock) for lock in range(16)]
        self.assertEqual(asked_behind(16, tasks, ALL_LOCKS), list(range(1, 17)))
        self.assertEqual(asked_behind(7, tasks, ALL_LOCKS), list(range(1, 8)) + [0] * 9)

    def test_the_greatest_number(self):
        tasks = [task([1])] * 31 + [task([take(15), 9, give(15)], rank=1)]
        self.assertEqual(asked_behind(1, tasks, ALL_LOCKS), [0] * 15 + [32])

    def test_one_that_has_all(self):
        locks = list(range(16))
        steps = [take(lock) for lock in locks] + [1] + [give(lock) for lock in locks]
        self.assertEqual(asked_behind(1, [task([5]), task(steps, rank=1)], ALL_LOCKS), [2] * 16)
        self.assertEqual(asked_behind(2, [task([5]), task(steps, rank=1)], ALL_LOCKS), [0] * 16)

    def test_until_it_was_given_back(self):
        # The last work ends in tick 1, and the lock is given back in tick 2.
        self.assertEqual(asked_over_time(owner(4), 4, [task([take(4), 2, give(4)])]), [0, 1, 1, 0, 0])
        self.assertEqual(asked_over_time(owner(4), 4, [task([take(4), 1, give(4), 2])]), [0, 1, 0, 0, 0])

    def test_while_it_is_not_chosen_nothing_is_given_back(self):
        tasks = [task([take(0), 1, give(0)], rank=1), task([2], first=1, rank=9)]
        self.assertEqual(asked_over_time(owner(0), 5, tasks), [0, 1, 1, 1, 0, 0])

    def test_from_one_to_the_next(self):
        tasks = [task([take(0), 3, give(0), 1], rank=1), task([take(0), 2, give(0), 1], first=1, rank=9)]
        self.assertEqual(asked_over_time(owner(0), 7, tasks), [0, 1, 1, 1, 2, 2, 0, 0])

    def test_given_back_with_one_that_waits_but_not_taken_yet(self):
        tasks = [
            task([take(0), take(1), 3, give(0), 2, give(1)], rank=1),
            task([take(0), 1, give(0)], first=1, rank=5),
            task([take(1), 1, give(1)], first=2, rank=9),
        ]
        self.assertEqual(asked_over_time(owner(0), 8, tasks), [0, 1, 1, 1, 0, 0, 0, 2, 0])
        self.assertEqual(asked_over_time(owner(1), 8, tasks), [0, 1, 1, 1, 1, 1, 3, 0, 0])

    def test_in_a_ring_each_keeps_its_own(self):
        tasks = [
            task([take(0), 1, take(1), 1, give(1), give(0)], rank=1),
            task([take(1), 1, take(0), 1, give(0), give(1)], first=1, rank=5),
        ]
        self.assertEqual(asked_behind(2000, tasks, ALL_LOCKS), [1, 2] + [0] * 14)

    def test_by_deadline(self):
        tasks = [task([take(0), 3, give(0)], deadline=50), task([take(0), 2, give(0)], first=1, deadline=5)]
        self.assertEqual(asked_over_time(owner(0), 6, tasks, 1), [0, 1, 1, 1, 2, 2, 0])

    def test_asking_and_refused_calls_change_nothing(self):
        refused = [run(-1), run(100001), order(1), task([1]), owner(16), owner(-1)]
        rows = rows_behind([task([take(2), 2, give(2)])], [run(1), owner(2)] + refused + [owner(2), run(2), owner(2)])
        self.assertEqual(rows, [[0, 0], [1]] + [[-1]] * 6 + [[1], [0, 0, 255], [0]])


if __name__ == "__main__":
    unittest.main()
