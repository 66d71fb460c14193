"""Promise 5: rt_now."""

import unittest

from tests.helper import CLEAR, INT_MAX, INT_MIN, NOW, answer_rows, order, run, task


class Now(unittest.TestCase):
    def test_0_behind_rt_clear(self):
        self.assertEqual(answer_rows(NOW), [[0]])

    def test_0_behind_one_that_comes_again(self):
        self.assertEqual(answer_rows(run(3), NOW, CLEAR, NOW, run(1), NOW),
                         [[0, 255, 255, 255], [3], [0], [0], [0, 255], [1]])

    def test_how_many_were_run_also_where_nobody_worked(self):
        self.assertEqual(answer_rows(task([2], first=1), run(1), NOW, run(2), NOW, run(2), NOW),
                         [[0], [0, 255], [1], [0, 0, 0], [3], [0, 255, 255], [5]])

    def test_the_sum_over_several(self):
        rows = answer_rows(*[run(2000)] * 3, NOW, run(1), run(17), NOW)
        self.assertEqual([row for row in rows if len(row) == 1], [[6000], [6018]])

    def test_unchanged_by_0_ticks(self):
        self.assertEqual(answer_rows(run(0), NOW, run(2), run(0), NOW)[1::3], [[0], [2]])

    def test_unchanged_by_a_refused_run(self):
        for n in (-1, -2000, INT_MIN, 100001, INT_MAX):
            rows = answer_rows(run(n), NOW, run(2), run(n), NOW)
            self.assertEqual(rows, [[-1], [0], [0, 255, 255], [-1], [2]], n)

    def test_unchanged_by_other_calls(self):
        rows = answer_rows(order(1), task([1]), NOW, run(4), order(0), task([1]), NOW, NOW)
        self.assertEqual(rows[2:], [[0], [0, 0, 255, 255, 255], [-1], [-1], [4], [4]])

    def test_asking_runs_nothing(self):
        self.assertEqual(answer_rows(NOW, task([1]), order(1), NOW, run(1)), [[0], [0], [0], [0], [0, 0]])


if __name__ == "__main__":
    unittest.main()
