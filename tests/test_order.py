"""Promise 2: rt_order."""

import unittest

from tests.helper import INT_MAX, INT_MIN, answer_rows, order, run, task

# By rank task 1 goes first, by deadline task 0.
TASKS = [task([1], deadline=1, rank=1), task([1], deadline=2, rank=2)]
RANK_FIRST = [0, 1, 0]
DEADLINE_FIRST = [0, 0, 1]


class Order(unittest.TestCase):
    def test_0_is_by_rank_and_1_by_deadline(self):
        self.assertEqual(answer_rows(order(0), *TASKS, run(2)), [[0], [0], [1], RANK_FIRST])
        self.assertEqual(answer_rows(order(1), *TASKS, run(2)), [[0], [0], [1], DEADLINE_FIRST])

    def test_behind_the_tasks(self):
        self.assertEqual(answer_rows(*TASKS, order(1), run(2)), [[0], [1], [0], DEADLINE_FIRST])

    def test_the_last_one_holds(self):
        self.assertEqual(answer_rows(order(1), order(0), *TASKS, run(2))[-1], RANK_FIRST)
        self.assertEqual(answer_rows(order(0), order(1), order(1), *TASKS, run(2))[-1], DEADLINE_FIRST)

    def test_other_numbers_are_refused_and_change_nothing(self):
        for number in (-1, 2, 3, 255, INT_MIN, INT_MAX):
            with self.subTest(number=number):
                rows = answer_rows(order(number), *TASKS, order(number), run(2))
                self.assertEqual(rows, [[-1], [0], [1], [-1], RANK_FIRST])
                rows = answer_rows(order(1), order(number), *TASKS, run(2))
                self.assertEqual(rows, [[0], [-1], [0], [1], DEADLINE_FIRST])

    def test_refused_when_ticks_were_run_and_changes_nothing(self):
        # Jobs that come behind the refused call go by the order that held before.
        late = [task([1], first=5, deadline=1, rank=1), task([1], first=5, deadline=2, rank=2)]
        self.assertEqual(answer_rows(*late, run(1), order(1), order(0), run(6))[2:],
                         [[0, 255], [-1], [-1], [0, 255, 255, 255, 255, 1, 0]])
        self.assertEqual(answer_rows(order(1), *late, run(1), order(0), order(1), order(2), run(6))[3:],
                         [[0, 255], [-1], [-1], [-1], [0, 255, 255, 255, 255, 0, 1]])

    def test_taken_when_no_tick_was_run_yet(self):
        rows = answer_rows(*TASKS, run(0), run(-1), run(100001), order(1), run(2))
        self.assertEqual(rows, [[0], [1], [0], [-1], [-1], [0], DEADLINE_FIRST])


if __name__ == "__main__":
    unittest.main()
