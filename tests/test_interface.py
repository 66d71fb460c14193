"""How calls are handed in and answered."""

import unittest

from tasklocks.processor import UnknownCall, answers
from tests.helper import CLEAR, NOW, give, joined, known, order, owner, run, split, state, take, task


class Untouchable(list):
    """A list that fails at any change, also one that would be taken back."""

    def refuse(self, *anything, **named):
        raise AssertionError("what was handed in was changed")

    __setitem__ = __delitem__ = __iadd__ = __imul__ = refuse
    append = extend = insert = pop = remove = clear = sort = reverse = refuse


CALLS = joined([
    CLEAR, order(1), order(2),
    task([take(0), 2, give(0)], period=5, deadline=9), task([take(0), 1, give(0), 1], first=1, deadline=3),
    task([]), run(-1), run(0), run(7), task([1]), CLEAR, run(1),
    owner(0), state(0), known(0, 0), NOW, CLEAR, NOW, task([take(2), 1, give(2)], deadline=1), known(0, 1), state(0),
    order(0), run(1), owner(2), owner(16), state(0), state(1), known(0, 0), known(0, 4), NOW,
    run(2), owner(2), state(0), known(0, 0), known(0, 1), known(0, 2), known(0, 3), NOW,
])


class Interface(unittest.TestCase):
    def test_each_answer_has_its_count_before_it(self):
        self.assertEqual(answers([1]), [1, 0])
        self.assertEqual(answers([1, 2, 1, 2, 5, 4, 0, 4, 2, 4, -1]), [1, 0, 1, 0, 1, -1, 1, 0, 3, 0, 255, 255, 1, -1])
        self.assertEqual(answers([1, 3, 0, 0, 10, 7, 1, 2, 4, 3]), [1, 0, 1, 0, 4, 0, 0, 0, 255])
        self.assertEqual(answers([1, 3, 0, 0, 10, 7, 0, 4, 1]), [1, 0, 1, -3, 2, 0, 255])

    def test_steps_that_look_like_calls_are_steps(self):
        self.assertEqual(answers([1, 3, 0, 0, 10, 0, 4, 1, 2, 3, 4, 4, 1]), [1, 0, 1, 0, 2, 0, 0])

    def test_all_kinds_of_answers_in_one_list(self):
        # Task 1 waits from tick 1 on; task 0 gives the lock back in tick 2, ahead of its own next coming at 5.
        self.assertEqual(answers(CALLS), joined([
            [1, 0], [1, 0], [1, -1], [1, 0], [1, 1], [1, -3], [1, -1], [1, 0],
            [8, 0, 0, 0, 1, 1, 255, 0, 0], [1, -1], [1, 0], [2, 0, 255],
            [1, 0], [1, -1], [1, -1], [1, 1], [1, 0], [1, 0], [1, 0], [1, 0], [1, 0],
            [1, 0], [2, 0, 0], [1, 1], [1, -1], [1, 2], [1, -1], [1, 0], [1, -1], [1, 1],
            [3, 0, 255, 255], [1, 0], [1, 0], [1, 1], [1, 1], [1, 0], [1, 1], [1, 3],
        ]))

    def test_any_call_behind_any_other(self):
        # Each of the eight stands once behind each, and every call but rt_run answers one number.
        kinds = [CLEAR, order(0), task([take(1), 2, give(1)]), run(3), NOW, known(0, 0), state(0), owner(1)]
        pairs = [[one, other] for one in kinds for other in kinds]
        calls = [CLEAR] + joined(pairs)
        rows = split(answers(joined(calls)))
        self.assertEqual(len(rows), len(calls))
        for call, row in zip(calls, rows):
            self.assertEqual(len(row), 4 if call == run(3) else 1, call)

    def test_what_is_handed_in_is_not_changed(self):
        handed_in = Untouchable(CALLS)
        answers(handed_in)
        self.assertEqual(list(handed_in), CALLS)

    def test_nothing_is_kept_from_one_time_to_the_next(self):
        before = answers(CALLS)
        answers(joined([CLEAR, order(1), task([take(3), 5, give(3)]), run(2)]))
        self.assertEqual(answers(CALLS), before)
        self.assertEqual(answers(list(CALLS)), before)

    def test_what_one_rt_clear_ends_is_as_if_it_had_not_been(self):
        told = [order(1), task([take(0), 3, give(0)], period=2, deadline=2), run(5)]
        asked = [NOW, state(0), owner(0), owner(15)] + [known(0, which) for which in range(4)]
        once = answers(joined([CLEAR] + told + asked))
        self.assertEqual(answers(joined([CLEAR] + told + asked + [CLEAR] + told + asked)), once + once)

    def test_the_answer_is_a_new_list_each_time(self):
        answers(CALLS).clear()
        self.assertEqual(answers([1]), [1, 0])

    def test_all_that_is_given_back_is_plain(self):
        answered = answers(CALLS)
        self.assertIs(type(answered), list)
        self.assertEqual({type(number) for number in answered}, {int})

    def test_a_number_that_is_no_call(self):
        for number in (0, 9, -1):
            with self.assertRaises(UnknownCall):
                answers([1, number])

    def test_the_example_of_the_readme(self):
        calls = [1, 3, 0, 4, 10, 7, 3, 20000, 2, 30000, 4, 5, 8, 0, 6, 0, 3]
        self.assertEqual(answers(calls), [1, 0, 1, 0, 6, 0, 0, 0, 255, 255, 0, 1, 1, 1, 2])

    def test_400_calls(self):
        calls = joined([CLEAR] + [order(1)] * 366 + [task([1])] * 32 + [run(32)])
        expected = [1, 0] * 367 + joined([[1, number] for number in range(32)]) + [33, 0] + list(range(32))
        self.assertEqual(answers(calls), expected)


if __name__ == "__main__":
    unittest.main()
