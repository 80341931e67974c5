"""The interface: how calls and answers are written, and that nothing is changed or kept."""

import unittest

from keymaps.keyboard import answers
from tests.calls import FLUSH, bind, command, instead, joined, key_map, press, put, run, unbind, use, wait

A, B, X = 97, 98, 120

ALL_CALLS = [key_map(3, 1), bind(0, [A, B], command(7)), bind(0, [A], put(3)), use(0, 3), wait(20), press(50, A, B),
             press(A), FLUSH, unbind(0, [A]), unbind(0, [A]), bind(0, [B], instead(B), 1), press(B, X)]


class InterfaceTest(unittest.TestCase):
    def test_calls_and_answers_as_they_are_written(self):
        calls = [0, 3, 1,
                 1, 0, 0, 4, 0, 7, 97, 98,
                 1, 0, 0, 3, 3, 3, 97,
                 3, 2, 0, 3,
                 4, 20,
                 5, 0, 3, 50, 97, 98,
                 5, 0, 1, 97,
                 6,
                 2, 0, 1, 97,
                 2, 0, 1, 97,
                 1, 0, 1, 4, 1, 1, 98, 98,
                 5, 0, 2, 98, 120]
        self.assertEqual(calls, joined(ALL_CALLS))
        self.assertEqual(answers(calls), [1, 3,
                                          1, 1,
                                          1, 2,
                                          1, 2,
                                          1, 20,
                                          5, 1, 1, 7, 2, 3,
                                          1, 0,
                                          5, 1, 3, 3, 0, 1,
                                          1, 1,
                                          1, -6,
                                          1, 2,
                                          9, 2, 0, 98, 0, 1, 0, 120, 0, 1])

    def test_every_purpose_as_it_is_written(self):
        self.assertEqual(answers([1, 0, 0, 3, 0, 5, 97, 5, 0, 1, 97]), [1, 1, 5, 1, 1, 5, 0, 1])
        self.assertEqual(answers([1, 0, 0, 5, 1, 2, 5, 6, 97, 5, 0, 1, 97]), [1, 1, 9, 2, 0, 5, 0, 1, 0, 6, 0, 1])
        self.assertEqual(answers([1, 0, 0, 5, 2, 2, 5, 6, 97, 5, 0, 1, 97]), [1, 1, 9, 2, 0, 5, 0, 1, 0, 6, 0, 0])
        self.assertEqual(answers([1, 0, 0, 3, 2, 0, 97, 5, 0, 1, 97]), [1, 1, 5, 1, 4, 0, 0, 1])
        self.assertEqual(answers([1, 0, 0, 3, 3, 7, 97, 5, 0, 1, 97]), [1, 1, 5, 1, 3, 7, 0, 1])
        self.assertEqual(answers([1, 0, 0, 2, 4, 97, 5, 0, 1, 97]), [1, 1, 5, 1, 3, 0, 0, 1])
        self.assertEqual(answers([1, 0, 0, 3, 5, 7, 97, 5, 0, 1, 97]), [1, 1, 5, 1, 3, 7, 0, 1])
        self.assertEqual(answers([1, 0, 0, 2, 6, 97, 5, 0, 1, 97]), [1, 1, 5, 1, 4, 0, 0, 1])

    def test_a_refusal_is_its_number_alone_and_the_calls_behind_it_are_read_right(self):
        calls = [key_map(8), bind(9, [1, 2], instead(1, 2)), bind(0, [256], instead(3)), unbind(0, [4, 5]), use(9, 9),
                 wait(0), press(256, 1), use(), press(), unbind(0, []), wait(5), FLUSH]
        self.assertEqual(run(*calls), [[-2], [-2], [-1], [-6], [-1], [-1], [-1], [-1], [-1], [-6], [5], [0]])

    def test_forty_calls(self):
        self.assertEqual(answers(press(X) * 40), [5, 1, 0, X, 0, 1] * 40)

    def test_what_is_handed_in_is_not_changed(self):
        calls = joined(ALL_CALLS)
        before = list(calls)
        answers(calls)
        self.assertEqual(calls, before)

    def test_nothing_is_kept_from_one_time_to_the_next(self):
        calls = joined(ALL_CALLS)
        first = answers(calls)
        self.assertEqual(answers(calls), first)
        self.assertEqual(answers(press(A, B)), [9, 2, 0, A, 0, 1, 0, B, 0, 1])

    def test_what_is_given_back_is_a_new_list_of_whole_numbers(self):
        calls = joined(ALL_CALLS)
        first = answers(calls)
        self.assertIs(type(first), list)
        self.assertEqual({type(number) for number in first}, {int})
        first.clear()
        self.assertNotEqual(answers(calls), [])

    def test_keys_pressed_together_are_as_if_pressed_one_by_one(self):
        bindings = [bind(0, [A], command(1)), bind(0, [A, B, A], put(1)), bind(1, [B], instead(A, A, B)),
                    bind(1, [A, A], instead(B, X)), bind(1, [A, B], [4])]
        keys = [A, B, A, B, 50, A, A, B, X, B, A, 49, 48, B, A, A, A, B, X, X]
        together = run(*bindings, press(*keys))[-1]
        one_by_one = run(*bindings, *[press(key) for key in keys])[len(bindings):]
        self.assertEqual(together[0], sum(answer[0] for answer in one_by_one))
        self.assertEqual(together[1:], [number for answer in one_by_one for number in answer[1:]])


if __name__ == "__main__":
    unittest.main()
