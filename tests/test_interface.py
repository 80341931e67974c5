"""The interface: how calls and answers are written, and that nothing is changed or kept."""

import unittest

from keymaps.keyboard import answers
from tests.calls import (FLUSH, HIDDEN, HUGE, OPEN, RINGS, bind, command, hints, instead, joined, key_map, lookup,
                         press, put, run, unbind, use, wait, would)

A, B, X = 97, 98, 120

ALL_CALLS = [key_map(3, 1), bind(0, [A, B], command(7)), bind(0, [A], put(3)), use(0, 3), wait(20), press(50, A, B),
             press(A), FLUSH, unbind(0, [A]), unbind(0, [A]), bind(0, [B], instead(B), 1), press(B, X),
             use(0, 3), bind(3, [B], command(8)), bind(3, [B, X], command(9)), press(49, A), OPEN, lookup(A), lookup(B),
             hints(), hints(A), HIDDEN, would(B), would(), RINGS, OPEN]


class InterfaceTest(unittest.TestCase):
    def test_calls_and_answers_as_they_are_written(self):
        calls = [0, 3, 1,
                 1, 0, 0, 4, 0, 7, 97, 98,
                 1, 0, 0, 3, 3, 3, 97,
                 3, 2, 0, 3,
                 4, 20,
                 5, 0, 3, 50, 97, 98,
                 5, 0, 1, 97,
                 6,
                 2, 0, 1, 97,
                 2, 0, 1, 97,
                 1, 0, 1, 4, 1, 1, 98, 98,
                 5, 0, 2, 98, 120,
                 3, 2, 0, 3,
                 1, 3, 0, 3, 0, 8, 98,
                 1, 3, 0, 4, 0, 9, 98, 120,
                 5, 0, 2, 49, 97,
                 7,
                 8, 1, 97,
                 8, 1, 98,
                 9, 0,
                 9, 1, 97,
                 10,
                 11, 1, 98,
                 11, 0,
                 12,
                 7]
        self.assertEqual(calls, joined(ALL_CALLS))
        self.assertEqual(answers(calls), [1, 3,
                                          1, 1,
                                          1, 2,
                                          1, 2,
                                          1, 20,
                                          5, 1, 1, 7, 2, 3,
                                          1, 0,
                                          5, 1, 3, 3, 0, 1,
                                          1, 1,
                                          1, -6,
                                          1, 2,
                                          9, 2, 0, 98, 0, 1, 0, 120, 0, 1,
                                          1, 2,
                                          1, 1,
                                          1, 2,
                                          1, 0,
                                          7, 1, 97, 1, 49, 2, 0, 3,
                                          2, 2, 0,
                                          2, 3, 1,
                                          5, 2, 97, 2, 98, 3,
                                          3, 1, 98, 1,
                                          8, 2, 3, 1, 98, 3, 2, 98, 120,
                                          5, 1, 1, 7, 1, 3,
                                          5, 1, 0, 97, 1, 2,
                                          6, 2, 1, 98, 2, 98, 120,
                                          7, 1, 97, 1, 49, 2, 0, 3])

    def test_every_purpose_as_it_is_written(self):
        self.assertEqual(answers([1, 0, 0, 3, 0, 5, 97, 5, 0, 1, 97]), [1, 1, 5, 1, 1, 5, 0, 1])
        self.assertEqual(answers([1, 0, 0, 5, 1, 2, 5, 6, 97, 5, 0, 1, 97]), [1, 1, 9, 2, 0, 5, 0, 1, 0, 6, 0, 1])
        self.assertEqual(answers([1, 0, 0, 5, 2, 2, 5, 6, 97, 5, 0, 1, 97]), [1, 1, 9, 2, 0, 5, 0, 1, 0, 6, 0, 0])
        self.assertEqual(answers([1, 0, 0, 3, 2, 0, 97, 5, 0, 1, 97]), [1, 1, 5, 1, 4, 0, 0, 1])
        self.assertEqual(answers([1, 0, 0, 3, 3, 7, 97, 5, 0, 1, 97]), [1, 1, 5, 1, 3, 7, 0, 1])
        self.assertEqual(answers([1, 0, 0, 2, 4, 97, 5, 0, 1, 97]), [1, 1, 5, 1, 3, 0, 0, 1])
        self.assertEqual(answers([1, 0, 0, 3, 5, 7, 97, 5, 0, 1, 97]), [1, 1, 5, 1, 3, 7, 0, 1])
        self.assertEqual(answers([1, 0, 0, 2, 6, 97, 5, 0, 1, 97]), [1, 1, 5, 1, 4, 0, 0, 1])

    def test_a_refusal_is_its_number_alone_and_the_calls_behind_it_are_read_right(self):
        calls = [key_map(8), bind(9, [1, 2], instead(1, 2)), bind(0, [256], instead(3)), unbind(0, [4, 5]), use(9, 9),
                 wait(0), press(256, 1), use(), press(), unbind(0, []), wait(5), FLUSH, lookup(256, 7), lookup(),
                 hints(1, 2, 3, 4), hints(HUGE), would(*[1] * 40), would(HUGE), HIDDEN, RINGS, OPEN]
        self.assertEqual(run(*calls), [[-2], [-2], [-1], [-6], [-1], [-1], [-1], [-1], [-1], [-6], [5], [0], [-1], [-1],
                                       [-1], [-1], [-1], [-1], [0], [0], [0, 0, 1, 0]])

    def test_all_thirteen_calls_are_among_those_above(self):
        self.assertEqual({call[0] for call in ALL_CALLS}, set(range(13)))

    def test_calls_that_only_tell_change_no_answer_of_the_others(self):
        asked = [OPEN, lookup(A), hints(A), HIDDEN, would(A, B, 50, X), would(), RINGS, lookup(), hints(256),
                 would(256)]
        for place in range(len(ALL_CALLS) + 1):
            told = run(*ALL_CALLS[:place], *asked, *asked, *ALL_CALLS[place:])
            self.assertEqual(told[:place] + told[place + 20:], run(*ALL_CALLS))
            self.assertEqual(told[place:place + 10], told[place + 10:place + 20])

    def test_forty_calls(self):
        self.assertEqual(answers(press(X) * 40), [5, 1, 0, X, 0, 1] * 40)

    def test_what_is_handed_in_is_not_changed(self):
        calls = joined(ALL_CALLS)
        before = list(calls)
        answers(calls)
        self.assertEqual(calls, before)

    def test_what_is_handed_in_is_not_changed_for_a_while_either(self):
        class Watched(list):
            def refuse(self, *given, **named):
                raise AssertionError("what is handed in was changed")

            append = extend = insert = pop = remove = clear = sort = reverse = refuse
            __setitem__ = __delitem__ = __iadd__ = __imul__ = refuse

        self.assertEqual(answers(Watched(joined(ALL_CALLS))), answers(joined(ALL_CALLS)))

    def test_nothing_is_kept_from_one_time_to_the_next(self):
        calls = joined(ALL_CALLS)
        first = answers(calls)
        self.assertEqual(answers(calls), first)
        self.assertEqual(answers(press(A, B)), [9, 2, 0, A, 0, 1, 0, B, 0, 1])
        self.assertEqual(run(OPEN, lookup(A), hints(), HIDDEN, would(), RINGS),
                         [[0, 0, 1, 0], [0, 0], [0], [0], [0], [0]])

    def test_what_is_given_back_is_a_new_list_of_whole_numbers(self):
        calls = joined(ALL_CALLS)
        first = answers(calls)
        self.assertIs(type(first), list)
        self.assertEqual({type(number) for number in first}, {int})
        first.clear()
        self.assertNotEqual(answers(calls), [])

    def test_keys_pressed_together_are_as_if_pressed_one_by_one(self):
        bindings = [bind(0, [A], command(1)), bind(0, [A, B, A], put(1)), bind(1, [B], instead(A, A, B)),
                    bind(1, [A, A], instead(B, X)), bind(1, [A, B], [4])]
        keys = [A, B, A, B, 50, A, A, B, X, B, A, 49, 48, B, A, A, A, B, X, X]
        together = run(*bindings, press(*keys))[-1]
        one_by_one = run(*bindings, *[press(key) for key in keys])[len(bindings):]
        self.assertEqual(together[0], sum(answer[0] for answer in one_by_one))
        self.assertEqual(together[1:], [number for answer in one_by_one for number in answer[1:]])


if __name__ == "__main__":
    unittest.main()
