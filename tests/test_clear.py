"""Promise 1: rt_clear."""

import unittest

from tests.helper import CLEAR, answer_rows, give, order, run, take, task


class Clear(unittest.TestCase):
    def test_answers_0_however_often(self):
        self.assertEqual(answer_rows(CLEAR, CLEAR, run(1), CLEAR), [[0], [0], [0, 255], [0]])

    def test_no_tasks_at_first(self):
        self.assertEqual(answer_rows(run(2), CLEAR, task([1])), [[0, 255, 255], [0], [0]])

    def test_no_tasks_when_it_comes_again(self):
        rows = answer_rows(task([1], period=1), task([1]), run(1), CLEAR, run(2), CLEAR, task([1]))
        self.assertEqual(rows, [[0], [1], [0, 0], [0], [0, 255, 255], [0], [0]])

    def test_room_for_32_tasks_when_it_comes_again(self):
        rows = answer_rows(*[task([1])] * 33, CLEAR, *[task([1])] * 33)
        once = [[number] for number in range(32)] + [[-2]]
        self.assertEqual(rows, once + [[0]] + once)

    def test_by_rank_at_first_and_when_it_comes_again(self):
        # By rank task 1 goes first, by deadline task 0.
        tasks = [task([1], deadline=1, rank=1), task([1], deadline=2, rank=2)]
        rows = answer_rows(*tasks, run(2), CLEAR, order(1), *tasks, run(2), CLEAR, *tasks, run(2))
        self.assertEqual([row for row in rows if len(row) == 3], [[0, 1, 0], [0, 0, 1], [0, 1, 0]])

    def test_by_rank_when_it_comes_again_with_no_tick_run(self):
        tasks = [task([1], deadline=1, rank=1), task([1], deadline=2, rank=2)]
        self.assertEqual(answer_rows(order(1), CLEAR, *tasks, run(2))[-1], [0, 1, 0])

    def test_tick_0_when_it_comes_again(self):
        rows = answer_rows(run(5), order(0), task([1]), CLEAR, order(0), task([1], first=2), run(4))
        self.assertEqual(rows, [[0] + [255] * 5, [-1], [-1], [0], [0], [0], [0, 255, 255, 0, 255]])

    def test_nobody_has_a_lock_when_it_comes_again(self):
        holder = task([take(0), 9, give(0)])
        self.assertEqual(answer_rows(holder, run(1), CLEAR, holder, run(2))[-1], [0, 0, 0])


if __name__ == "__main__":
    unittest.main()
