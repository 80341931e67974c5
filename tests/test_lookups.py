"""open, lookup, hints and hidden, and promise 3 as far as lookup and hints go."""

import unittest

from tests.calls import (FLUSH, HIDDEN, HUGE, NOTHING, OPEN, TAKE, bind, command, exchange, hints, instead, key_map,
                         last, lookup, press, put, run, unbind, use)

A, B, C, D, X = 97, 98, 99, 100, 120
ZERO, ONE, TWO = 48, 49, 50


class OpenTest(unittest.TestCase):
    def test_at_the_beginning(self):
        self.assertEqual(last(OPEN), [0, 0, 1, 0])

    def test_open_keys_digits_and_maps(self):
        calls = [bind(0, [A, B, C, D], command(5)), use(3, 0, 3), press(ONE, ZERO, TWO, A, B, C)]
        self.assertEqual(last(*calls, OPEN), [3, A, B, C, 3, ONE, ZERO, TWO, 3, 3, 0, 3])

    def test_each_part_by_itself(self):
        self.assertEqual(last(bind(0, [A, B], command(5)), press(A), OPEN), [1, A, 0, 1, 0])
        self.assertEqual(last(press(TWO, ZERO, ZERO, ONE), OPEN), [0, 4, TWO, ZERO, ZERO, ONE, 1, 0])
        self.assertEqual(last(use(5, 4, 3, 2, 1, 5), OPEN), [0, 0, 6, 5, 4, 3, 2, 1, 5])

    def test_a_digit_that_begins_a_sequence_is_open_and_no_digit_yet(self):
        calls = [bind(0, [ONE, A], command(5)), press(ONE)]
        self.assertEqual(last(*calls, OPEN), [1, ONE, 0, 1, 0])
        self.assertEqual(last(*calls, FLUSH, OPEN), [0, 1, ONE, 1, 0])

    def test_digits_are_gone_with_the_event(self):
        self.assertEqual(last(press(ONE, X), OPEN), [0, 0, 1, 0])
        self.assertEqual(last(press(ONE, X, TWO), OPEN), [0, 1, TWO, 1, 0])

    def test_maps_put_exchanged_and_taken_away(self):
        calls = [bind(0, [A], put(1)), bind(0, [B], exchange(2)), bind(0, [C], TAKE)]
        self.assertEqual(last(*calls, press(A), OPEN), [0, 0, 2, 1, 0])
        self.assertEqual(last(*calls, press(A, B), OPEN), [0, 0, 2, 2, 0])
        self.assertEqual(last(*calls, press(A, A, C), OPEN), [0, 0, 2, 1, 0])
        self.assertEqual(last(*calls, press(C), OPEN), [0, 0, 1, 0])
        self.assertEqual(last(*calls, press(*[A] * 7), OPEN), [0, 0, 6, 1, 1, 1, 1, 1, 0])

    def test_maps_that_do_not_count_are_in_use_too(self):
        self.assertEqual(last(key_map(1, 1), use(1, 0, 2), OPEN), [0, 0, 3, 1, 0, 2])

    def test_keys_stay_open_whatever_is_changed_around_them(self):
        calls = [bind(0, [A, B], command(5)), press(TWO, A)]
        for change in (key_map(0), unbind(0, [A, B]), bind(0, [A], command(1), 1), use(0, 0)):
            self.assertEqual(last(*calls, change, OPEN)[:4], [1, A, 1, TWO])

    def test_nothing_is_changed_by_asking(self):
        calls = [bind(0, [A, B], command(5)), press(TWO, A)]
        self.assertEqual(run(*calls, OPEN, OPEN, press(B))[2:],
                         [[1, A, 1, TWO, 1, 0], [1, A, 1, TWO, 1, 0], [1, 1, 5, 2, 3]])


class LookupTest(unittest.TestCase):
    def test_bound_goes_on_both_neither(self):
        calls = [bind(0, [A, B], command(1)), bind(0, [A, B, C, D], command(2))]
        self.assertEqual(last(*calls, lookup(A)), [2, 0])
        self.assertEqual(last(*calls, lookup(A, B)), [3, 1])
        self.assertEqual(last(*calls, lookup(A, B, C)), [2, 0])
        self.assertEqual(last(*calls, lookup(A, B, C, D)), [1, 1])
        for sequence in ([B], [B, A], [A, C], [A, B, D], [A, B, C, A], [B, C]):
            self.assertEqual(last(*calls, lookup(*sequence)), [0, 0])

    def test_which_map_it_is_bound_by(self):
        for number in range(8):
            self.assertEqual(last(bind(number, [A], NOTHING), use(number), lookup(A)), [1, number + 1])

    def test_the_topmost_map_that_has_it(self):
        calls = [bind(2, [A], NOTHING), bind(5, [A], NOTHING)]
        self.assertEqual(last(*calls, use(0, 2, 5), lookup(A)), [1, 3])
        self.assertEqual(last(*calls, use(0, 5, 2), lookup(A)), [1, 6])
        self.assertEqual(last(*calls, use(5, 0, 2, 5), lookup(A)), [1, 6])
        self.assertEqual(last(*calls, use(0, 1), lookup(A)), [0, 0])

    def test_it_goes_on_by_any_map_that_counts(self):
        calls = [bind(1, [A], NOTHING), bind(2, [A, B], NOTHING)]
        self.assertEqual(last(*calls, use(1, 2), lookup(A)), [3, 2])
        self.assertEqual(last(*calls, use(2, 1), lookup(A)), [3, 2])
        self.assertEqual(last(*calls, use(2), lookup(A)), [2, 0])
        self.assertEqual(last(*calls, use(1), lookup(A)), [1, 2])

    def test_a_shut_map_counts_but_none_below_it(self):
        calls = [key_map(3, 1), bind(3, [A], NOTHING), bind(1, [A, B], NOTHING), bind(1, [C], NOTHING)]
        self.assertEqual(last(*calls, use(3, 1), lookup(A)), [1, 4])
        self.assertEqual(last(*calls, use(3, 1), lookup(A, B)), [0, 0])
        self.assertEqual(last(*calls, use(3, 1), lookup(C)), [0, 0])
        self.assertEqual(last(*calls, use(1, 3), lookup(A)), [3, 4])
        self.assertEqual(last(*calls, use(3, 1), key_map(3), lookup(A)), [2, 0])
        self.assertEqual(last(*calls, use(1, 3, 1), lookup(C)), [1, 2])

    def test_done_at_once_goes_on_all_the_same(self):
        self.assertEqual(last(bind(0, [A], NOTHING, 1), bind(0, [A, B], NOTHING), lookup(A)), [3, 1])
        self.assertEqual(last(bind(0, [A], NOTHING, 1), bind(0, [A, B], NOTHING), lookup(A, B)), [1, 1])

    def test_open_keys_have_no_part_in_it(self):
        calls = [bind(0, [A, B], NOTHING), press(ONE, A)]
        self.assertEqual(last(*calls, lookup(B)), [0, 0])
        self.assertEqual(last(*calls, lookup(A)), [2, 0])

    def test_no_longer_bound(self):
        calls = [bind(0, [A], NOTHING), bind(0, [A, B], NOTHING)]
        self.assertEqual(last(*calls, unbind(0, [A]), lookup(A)), [2, 0])
        self.assertEqual(last(*calls, unbind(0, [A, B]), lookup(A)), [1, 1])
        self.assertEqual(last(*calls, key_map(0), lookup(A)), [0, 0])

    def test_how_many_keys(self):
        self.assertEqual(last(lookup()), [-1])
        for length in (1, 2, 3, 4):
            self.assertEqual(last(lookup(*[A] * length)), [0, 0])
        for length in (5, 6, 20):
            self.assertEqual(last(lookup(*[A] * length)), [-1])

    def test_keys_from_0_to_255(self):
        self.assertEqual(last(bind(0, [0, 255], NOTHING), lookup(0, 255)), [1, 1])
        for sequence in ([256], [HUGE], [256, A], [A, 256], [A, A, A, 256]):
            self.assertEqual(last(lookup(*sequence)), [-1])


class HintsTest(unittest.TestCase):
    TREE = [bind(0, [255], NOTHING), bind(0, [A, B], NOTHING), bind(0, [A, B, C], NOTHING), bind(0, [A, 0], NOTHING),
            bind(0, [A, C, D, X], NOTHING), bind(0, [A, C, D, B], NOTHING), bind(0, [0, A], NOTHING)]

    def test_no_keys(self):
        self.assertEqual(last(hints()), [0])
        self.assertEqual(last(*self.TREE, hints()), [3, 0, 2, A, 2, 255, 1])

    def test_one_to_three_keys(self):
        self.assertEqual(last(*self.TREE, hints(A)), [3, 0, 1, B, 3, C, 2])
        self.assertEqual(last(*self.TREE, hints(A, C)), [1, D, 2])
        self.assertEqual(last(*self.TREE, hints(A, C, D)), [2, B, 1, X, 1])

    def test_nothing_begins_so(self):
        for keys in ([255], [B], [A, 0], [A, D], [A, B, C], [C, D], [D]):
            self.assertEqual(last(*self.TREE, hints(*keys)), [0])

    def test_each_key_once_though_several_maps_have_it(self):
        calls = [bind(1, [A], NOTHING), bind(2, [A, B], NOTHING), bind(2, [A], NOTHING), bind(1, [A, C], NOTHING),
                 bind(2, [B], NOTHING)]
        self.assertEqual(last(*calls, use(1, 2, 1), hints()), [2, A, 3, B, 1])
        self.assertEqual(last(*calls, use(2, 1), hints(A)), [2, B, 1, C, 1])

    def test_only_maps_that_count(self):
        calls = [key_map(2, 1), bind(1, [A], NOTHING), bind(2, [B], NOTHING), bind(3, [A, B], NOTHING),
                 bind(3, [C], NOTHING)]
        self.assertEqual(last(*calls, use(1, 2, 3), hints()), [2, A, 1, B, 1])
        self.assertEqual(last(*calls, use(1, 2, 3), hints(A)), [0])
        self.assertEqual(last(*calls, use(1, 3, 2), hints()), [3, A, 3, B, 1, C, 1])
        self.assertEqual(last(*calls, use(2, 1, 3), hints()), [1, B, 1])
        self.assertEqual(last(*calls, hints()), [0])

    def test_hidden_by_a_beginning_done_at_once_is_bound_all_the_same(self):
        self.assertEqual(last(bind(0, [A], NOTHING, 1), bind(0, [A, B], NOTHING), hints(A)), [1, B, 1])

    def test_they_are_what_lookup_tells_of_each_key(self):
        calls = [*self.TREE, bind(1, [A, B, X], NOTHING), bind(1, [C], NOTHING), use(1, 0)]
        for keys in ([], [A], [A, B], [A, C, D], [0], [C]):
            due = []
            for start in range(0, 256, 16):
                asked = [lookup(*keys, key) for key in range(start, start + 16)]
                for key, told in enumerate(run(*calls, *asked)[len(calls):], start):
                    if told[0] > 0:
                        due.extend([key, told[0]])
            self.assertEqual(last(*calls, hints(*keys)), [len(due) // 2, *due])

    def test_open_keys_have_no_part_in_it(self):
        self.assertEqual(last(*self.TREE, press(ONE, A), hints()), [3, 0, 2, A, 2, 255, 1])

    def test_how_many_keys(self):
        for length in (0, 1, 2, 3):
            self.assertEqual(last(hints(*[A] * length)), [0])
        for length in (4, 5, 20):
            self.assertEqual(last(hints(*[A] * length)), [-1])

    def test_keys_from_0_to_255(self):
        self.assertEqual(last(bind(0, [0, 255, 0, 255], NOTHING), hints(0, 255, 0)), [1, 255, 1])
        for keys in ([256], [HUGE], [256, A], [A, 256], [A, A, 256]):
            self.assertEqual(last(hints(*keys)), [-1])


class HiddenTest(unittest.TestCase):
    def test_none(self):
        self.assertEqual(last(HIDDEN), [0])
        self.assertEqual(last(bind(0, [A], NOTHING), bind(0, [A, B], NOTHING), bind(1, [A], NOTHING), HIDDEN), [0])

    def test_by_a_map_above(self):
        calls = [bind(1, [A, B], command(1)), bind(2, [A, B], command(2)), bind(2, [A], command(3))]
        self.assertEqual(last(*calls, use(1, 2), HIDDEN), [1, 2, 2, A, B])
        self.assertEqual(last(*calls, use(2, 1), HIDDEN), [1, 1, 2, A, B])

    def test_by_a_map_above_that_has_just_the_same_for_it(self):
        calls = [bind(1, [A], command(1)), bind(2, [A], command(1)), use(1, 2)]
        self.assertEqual(last(*calls, HIDDEN), [1, 2, 1, A])

    def test_by_a_map_that_is_shut(self):
        calls = [key_map(1, 1), bind(1, [A], NOTHING), bind(2, [B], NOTHING), bind(3, [C, D], NOTHING)]
        self.assertEqual(last(*calls, use(1, 2, 3), HIDDEN), [2, 2, 1, B, 3, 2, C, D])
        self.assertEqual(last(*calls, use(2, 1, 3), HIDDEN), [1, 3, 2, C, D])
        self.assertEqual(last(*calls, use(3, 2, 1), HIDDEN), [0])

    def test_by_a_beginning_done_at_once_in_the_same_map(self):
        calls = [bind(0, [A, B, C, D], NOTHING), bind(0, [A, B], NOTHING, 1), bind(0, [A], NOTHING),
                 bind(0, [A, B, X], NOTHING), bind(0, [B, A], NOTHING)]
        self.assertEqual(last(*calls, HIDDEN), [2, 0, 4, A, B, C, D, 0, 3, A, B, X])

    def test_by_a_beginning_of_each_length(self):
        for length in (1, 2, 3):
            sequence = [A, B, C, D]
            calls = [bind(0, sequence, NOTHING), bind(0, sequence[:length], NOTHING, 1)]
            self.assertEqual(last(*calls, HIDDEN), [1, 0, 4, A, B, C, D])

    def test_by_a_beginning_done_at_once_in_another_map(self):
        calls = [bind(1, [A], NOTHING, 1), bind(2, [A, B], NOTHING)]
        self.assertEqual(last(*calls, use(1, 2), HIDDEN), [1, 2, 2, A, B])
        self.assertEqual(last(*calls, use(2, 1), HIDDEN), [1, 2, 2, A, B])
        self.assertEqual(last(*calls, use(2), HIDDEN), [0])

    def test_not_by_a_beginning_that_is_bound_to_something_else(self):
        calls = [bind(0, [A], NOTHING, 1), bind(0, [A, B], NOTHING), bind(1, [A], NOTHING, 0), use(1, 0)]
        self.assertEqual(last(*calls, HIDDEN), [1, 0, 1, A])

    def test_not_by_a_beginning_in_a_map_that_does_not_count(self):
        calls = [key_map(1, 1), bind(1, [A, B], NOTHING), bind(2, [A], NOTHING, 1), use(1, 2)]
        self.assertEqual(last(*calls, HIDDEN), [1, 2, 1, A])

    def test_not_by_itself_being_done_at_once(self):
        self.assertEqual(last(bind(0, [A, B], NOTHING, 1), bind(0, [A], NOTHING), HIDDEN), [0])

    def test_told_once_though_hidden_in_both_ways(self):
        calls = [bind(1, [A], NOTHING, 1), bind(1, [A, B], NOTHING), bind(2, [A, B], NOTHING), use(1, 2)]
        self.assertEqual(last(*calls, HIDDEN), [2, 1, 2, A, B, 2, 2, A, B])

    def test_each_map_once_where_it_is_first(self):
        calls = [bind(1, [A], NOTHING), bind(2, [A], NOTHING), bind(2, [B], NOTHING), bind(1, [B], NOTHING),
                 bind(3, [A], NOTHING)]
        self.assertEqual(last(*calls, use(1, 1), HIDDEN), [0])
        self.assertEqual(last(*calls, use(1, 2, 1, 2), HIDDEN), [2, 2, 1, A, 2, 1, B])
        self.assertEqual(last(*calls, use(1, 2, 3, 2, 1), HIDDEN), [3, 2, 1, A, 2, 1, B, 3, 1, A])
        self.assertEqual(last(*calls, use(1, 3, 2, 3), HIDDEN), [3, 3, 1, A, 2, 1, A, 2, 1, B])

    def test_a_map_above_and_below_one_that_is_shut_is_not_hidden(self):
        calls = [key_map(1, 1), bind(2, [A], NOTHING), bind(3, [A], NOTHING)]
        self.assertEqual(last(*calls, use(2, 1, 2, 3), HIDDEN), [1, 3, 1, A])

    def test_only_maps_in_use(self):
        calls = [bind(0, [A], NOTHING), bind(1, [A], NOTHING), use(0, 1)]
        self.assertEqual(last(*calls, HIDDEN), [1, 1, 1, A])
        self.assertEqual(last(*calls, use(0, 2), HIDDEN), [0])

    def test_maps_that_keys_have_put_and_taken_away(self):
        calls = [bind(0, [A], put(1)), bind(1, [A], TAKE)]
        self.assertEqual(last(*calls, press(A), HIDDEN), [1, 0, 1, A])
        self.assertEqual(last(*calls, press(A, A), HIDDEN), [0])


class OrderTest(unittest.TestCase):
    """The order in which a map's sequences were bound, as hidden tells it of a map that does not count."""

    CALLS = [key_map(0, 1), use(0, 1), bind(1, [C], NOTHING), bind(1, [A], command(1)), bind(1, [B], NOTHING)]

    def order(self, *calls):
        answer = last(*self.CALLS, *calls, HIDDEN)
        self.assertEqual(answer[1::3], [1] * answer[0])
        return answer[3::3]

    def test_as_they_were_bound(self):
        self.assertEqual(self.order(), [C, A, B])

    def test_bound_again_is_bound_then(self):
        self.assertEqual(self.order(bind(1, [A], command(2))), [C, B, A])
        self.assertEqual(self.order(bind(1, [C], NOTHING)), [A, B, C])
        self.assertEqual(self.order(bind(1, [C], NOTHING), bind(1, [A], NOTHING), bind(1, [D], TAKE)), [B, C, A, D])

    def test_bound_again_to_just_the_same_is_bound_then(self):
        self.assertEqual(self.order(bind(1, [A], command(1))), [C, B, A])

    def test_bound_again_in_another_map_stays_where_it_was(self):
        self.assertEqual(self.order(bind(2, [A], command(2)), bind(2, [C], NOTHING)), [C, A, B])

    def test_unbound_and_bound_again(self):
        self.assertEqual(self.order(unbind(1, [A])), [C, B])
        self.assertEqual(self.order(unbind(1, [C]), bind(1, [C], NOTHING)), [A, B, C])

    def test_a_refusal_leaves_the_order(self):
        refused = [bind(1, [A], command(1000)), bind(1, [C], instead()), bind(9, [A], NOTHING), unbind(1, [D]),
                   key_map(8), bind(1, [A], put(8))]
        self.assertEqual(self.order(*refused), [C, A, B])

    def test_in_a_full_map(self):
        more = [bind(1, [key], NOTHING) for key in range(17)]
        self.assertEqual(self.order(*more, bind(1, [X], NOTHING)), [C, A, B, *range(17)])
        self.assertEqual(self.order(*more, bind(1, [A], NOTHING)), [C, B, *range(17), A])


if __name__ == "__main__":
    unittest.main()
