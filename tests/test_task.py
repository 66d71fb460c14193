"""Promise 3: rt_task."""

import unittest

from tests.helper import INT_MAX, INT_MIN, answer_rows, give, order, run, take, task

NO_STEPS = (0, 10001, 19999, 20016, 29999, 30016, 65535)


def answer_to(steps, **told):
    return answer_rows(task(steps, **told))[0]


class Numbers(unittest.TestCase):
    def test_from_0_on(self):
        self.assertEqual(answer_rows(*[task([1])] * 32), [[number] for number in range(32)])

    def test_a_refused_one_takes_no_number(self):
        rows = answer_rows(task([]), task([1]), task([0]), task([1], rank=256), task([1]))
        self.assertEqual(rows, [[-3], [0], [-3], [-3], [1]])

    def test_still_taken_behind_0_ticks_and_refused_runs(self):
        self.assertEqual(answer_rows(run(0), run(-5), run(100001), task([1]))[-1], [0])


class Refusals(unittest.TestCase):
    def test_1_when_ticks_were_run(self):
        self.assertEqual(answer_rows(run(1), task([1])), [[0, 255], [-1]])
        self.assertEqual(answer_rows(task([1]), run(2), task([1]), run(1)), [[0], [0, 0, 255], [-1], [0, 255]])

    def test_2_when_there_are_32(self):
        self.assertEqual(answer_rows(*[task([1])] * 34)[31:], [[31], [-2], [-2]])

    def test_1_goes_before_2_and_3(self):
        self.assertEqual(answer_rows(*[task([1])] * 32, run(1), task([1]), task([]))[-2:], [[-1], [-1]])
        self.assertEqual(answer_rows(run(1), task([]), task([0]), task([1], first=-1))[-3:], [[-1], [-1], [-1]])

    def test_2_goes_before_3(self):
        rows = answer_rows(*[task([1])] * 32, task([]), task([1], rank=-1), task([take(0)]))
        self.assertEqual(rows[32:], [[-2], [-2], [-2]])

    def test_edges_of_first_and_period(self):
        for name in ("first", "period"):
            for number in (0, 1, 1000000):
                self.assertEqual(answer_to([1], **{name: number}), [0], (name, number))
            for number in (-1, 1000001, INT_MIN, INT_MAX):
                self.assertEqual(answer_to([1], **{name: number}), [-3], (name, number))

    def test_edges_of_deadline(self):
        for number in (1, 2, 1000000):
            self.assertEqual(answer_to([1], deadline=number), [0], number)
        for number in (0, -1, 1000001, INT_MIN, INT_MAX):
            self.assertEqual(answer_to([1], deadline=number), [-3], number)

    def test_edges_of_rank(self):
        for number in (0, 1, 255):
            self.assertEqual(answer_to([1], rank=number), [0], number)
        for number in (-1, 256, INT_MIN, INT_MAX):
            self.assertEqual(answer_to([1], rank=number), [-3], number)

    def test_edges_of_n(self):
        self.assertEqual(answer_to([]), [-3])
        self.assertEqual(answer_to([1]), [0])
        self.assertEqual(answer_to([1] * 63), [0])
        self.assertEqual(answer_to([1] * 64), [0])
        self.assertEqual(answer_to([1] * 65), [-3])

    def test_after_a_refusal_all_is_as_it_was(self):
        refused = [task([9], rank=256), task([9, take(0)], rank=255), task([], rank=255), task([9], deadline=0)]
        rows = answer_rows(order(1), task([2], deadline=5), *refused, task([2], deadline=4), run(5))
        self.assertEqual(rows, [[0], [0], [-3], [-3], [-3], [-3], [1], [0, 1, 1, 0, 0, 255]])

    def test_after_a_refusal_while_jobs_are_at_work_all_is_as_it_was(self):
        rows = answer_rows(task([3]), run(1), task([9], rank=255), task([]), run(3))
        self.assertEqual(rows, [[0], [0, 0], [-1], [-1], [0, 0, 0, 255]])

    def test_after_too_many_all_is_as_it_was(self):
        rows = answer_rows(*[task([1], first=100)] * 32, task([1], rank=255), run(2))
        self.assertEqual(rows[-2:], [[-2], [0, 255, 255]])


class Steps(unittest.TestCase):
    def assert_right(self, steps):
        self.assertEqual(answer_to(steps), [0], steps)

    def assert_wrong(self, steps):
        self.assertEqual(answer_to(steps), [-3], steps)

    def test_edges_of_work(self):
        for work in (1, 2, 9999, 10000):
            self.assert_right([work])

    def test_edges_of_locks(self):
        for lock in (0, 1, 14, 15):
            self.assert_right([take(lock), 1, give(lock)])

    def test_numbers_that_are_no_step(self):
        for number in NO_STEPS:
            self.assert_wrong([number])
            self.assert_wrong([1, number])
            self.assert_wrong([number, 1])
        self.assert_wrong([1, take(16), give(16)])
        self.assert_wrong([1, take(-1), give(-1)])

    def test_no_work_at_all(self):
        self.assert_wrong([take(0), give(0)])
        self.assert_wrong([take(0), take(1), give(1), give(0)])

    def test_work_anywhere_is_some_work(self):
        self.assert_right([1, take(0), give(0)])
        self.assert_right([take(0), 1, give(0)])
        self.assert_right([take(0), give(0), 1])

    def test_taken_by_steps_that_have_it(self):
        self.assert_wrong([take(0), take(0), 1, give(0)])
        self.assert_wrong([take(0), take(0), 1, give(0), give(0)])
        self.assert_wrong([take(3), 1, take(4), take(3), give(3), give(4)])

    def test_given_back_by_steps_that_have_it_not(self):
        self.assert_wrong([1, give(0)])
        self.assert_wrong([give(0), 1, take(0)])
        self.assert_wrong([take(0), 1, give(1), give(0)])
        self.assert_wrong([take(0), 1, give(0), give(0)])
        self.assert_wrong([give(0), take(0), 1, give(0)])

    def test_not_given_back_at_the_end(self):
        self.assert_wrong([take(0), 1])
        self.assert_wrong([1, take(15)])
        self.assert_wrong([take(0), take(1), 1, give(0)])
        self.assert_wrong([take(0), 1, give(0), take(0)])

    def test_taken_again_when_given_back(self):
        self.assert_right([take(0), 1, give(0), take(0), give(0)])

    def test_given_back_in_any_order(self):
        self.assert_right([take(0), take(1), 1, give(0), give(1)])
        self.assert_right([take(0), take(1), 1, give(1), give(0)])

    def test_all_locks_at_once(self):
        locks = list(range(16))
        self.assert_right([take(lock) for lock in locks] + [1] + [give(lock) for lock in locks])

    def test_64_steps_with_locks(self):
        self.assert_right([take(0), give(0)] * 31 + [1, 1])
        self.assert_wrong([take(0), give(0)] * 31 + [1, take(0)])
        self.assert_wrong([take(0), give(0)] * 32)


if __name__ == "__main__":
    unittest.main()
