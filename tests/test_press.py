"""Promise 3 as far as press goes, and the keys that press and flush go through."""

import unittest

from tests.calls import (FLUSH, HUGE, NOTHING, TAKE, as_they_are, bind, command, events, exchange, instead, key_map,
                         last, press, put, unbind, use, wait)

A, B, C, D, X, Y = 97, 98, 99, 100, 120, 121
ZERO, ONE, TWO, NINE = 48, 49, 50, 57


class PressTest(unittest.TestCase):
    def test_answers_the_events(self):
        self.assertEqual(last(bind(0, [A], command(5)), press(A, X)), [2, 1, 5, 0, 1, 0, X, 0, 1])
        self.assertEqual(last(bind(0, [A, B], command(5)), press(A)), [0])

    def test_how_many_keys(self):
        self.assertEqual(last(press()), [-1])
        self.assertEqual(last(press(*[X] * 20))[0], 20)
        for how_many in (21, 40):
            self.assertEqual(last(press(*[X] * how_many)), [-1])

    def test_keys_from_0_to_255(self):
        self.assertEqual(events(press(0, 255)), [(0, 0, 0, 1), (0, 255, 0, 1)])
        for keys in ([256], [HUGE], [X, 256], [256, X], [X] * 19 + [256]):
            self.assertEqual(last(press(*keys)), [-1])

    def test_a_refusal_leaves_all_as_it_was(self):
        calls = [bind(0, [A, B], command(5)), press(TWO, A)]
        for refused in (press(ticks=10), press(256, ticks=10), press(*[X] * 21, ticks=10), press(X, B, 256)):
            self.assertEqual(events(*calls, refused, press(B)), [(1, 5, 2, 3)])


class SettledTest(unittest.TestCase):
    SHORT_AND_LONG = [bind(0, [A], command(1)), bind(0, [A, B, C], command(3))]

    def test_the_longer_one(self):
        self.assertEqual(events(*self.SHORT_AND_LONG, press(A, B, C)), [(1, 3, 0, 3)])
        self.assertEqual(events(*self.SHORT_AND_LONG, press(A), press(B), press(C)), [(1, 3, 0, 3)])

    def test_it_is_waited_while_more_may_come(self):
        self.assertEqual(events(*self.SHORT_AND_LONG, press(A)), [])
        self.assertEqual(events(*self.SHORT_AND_LONG, press(A, B)), [])

    def test_the_shorter_one_and_keys_coming_again(self):
        self.assertEqual(events(*self.SHORT_AND_LONG, press(A, X)), [(1, 1, 0, 1), (0, X, 0, 1)])
        self.assertEqual(events(*self.SHORT_AND_LONG, press(A, B, X)), [(1, 1, 0, 1), (0, B, 0, 1), (0, X, 0, 1)])

    def test_keys_coming_again_may_be_open_again(self):
        self.assertEqual(events(*self.SHORT_AND_LONG, press(A, A, B, C)), [(1, 1, 0, 1), (1, 3, 0, 3)])
        self.assertEqual(events(*self.SHORT_AND_LONG, press(A, B, A, B, C)),
                         [(1, 1, 0, 1), (0, B, 0, 1), (1, 3, 0, 3)])

    def test_keys_coming_again_may_be_bound(self):
        calls = [*self.SHORT_AND_LONG, bind(0, [B], command(2)), bind(0, [B, X], command(9))]
        self.assertEqual(events(*calls, press(A, B, X)), [(1, 1, 0, 1), (1, 9, 0, 2)])
        self.assertEqual(events(*calls, press(A, B, D)), [(1, 1, 0, 1), (1, 2, 0, 1), (0, D, 0, 1)])

    def test_the_longest_of_several_beginnings(self):
        calls = [bind(0, [A] * length, command(length)) for length in (1, 2, 4)]
        self.assertEqual(events(*calls, press(A, A, A, X)), [(1, 2, 0, 2), (1, 1, 0, 1), (0, X, 0, 1)])
        self.assertEqual(events(*calls, press(A, A, A, A, A), FLUSH), [(1, 1, 0, 1)])
        self.assertEqual(events(*calls, press(A, A, A), FLUSH), [(1, 2, 0, 2), (1, 1, 0, 1)])

    def test_no_beginning_is_bound(self):
        calls = [bind(0, [A, B, C, D], command(4)), bind(0, [B, C], command(2))]
        self.assertEqual(events(*calls, press(A, B, C, X)), [(0, A, 0, 1), (1, 2, 0, 2), (0, X, 0, 1)])

    def test_an_end_that_is_bound_is_no_beginning(self):
        self.assertEqual(events(bind(0, [B], command(2)), press(A, B)), [(0, A, 0, 1), (1, 2, 0, 1)])

    def test_done_at_once(self):
        longer = bind(0, [A, B], command(2))
        self.assertEqual(events(bind(0, [A], command(1), 1), longer, press(A)), [(1, 1, 0, 1)])
        self.assertEqual(events(bind(0, [A], command(1), 1), longer, press(A, B)), [(1, 1, 0, 1), (0, B, 0, 1)])
        self.assertEqual(events(bind(0, [A], command(1), 0), longer, press(A)), [])
        self.assertEqual(events(bind(0, [A], command(1), 0), longer, press(A, B)), [(1, 2, 0, 2)])

    def test_at_once_in_the_midst_of_a_longer_one(self):
        calls = [bind(0, [A], command(1)), bind(0, [A, B], command(2), 1), bind(0, [A, B, C], command(3))]
        self.assertEqual(events(*calls, press(A)), [])
        self.assertEqual(events(*calls, press(A, B)), [(1, 2, 0, 2)])

    def test_at_once_of_the_longer_one_does_not_hurry_the_shorter(self):
        self.assertEqual(events(bind(0, [A], command(1)), bind(0, [A, B], command(2), 1), press(A)), [])

    def test_bindings_changed_while_keys_are_open(self):
        calls = [bind(0, [A, B, C], command(3)), press(A, B)]
        self.assertEqual(events(*calls, unbind(0, [A, B, C]), press(C)), [(0, A, 0, 1), (0, B, 0, 1), (0, C, 0, 1)])
        self.assertEqual(events(*calls, bind(0, [A], command(1), 1), FLUSH), [(1, 1, 0, 1), (0, B, 0, 1)])
        self.assertEqual(events(*calls, key_map(0), bind(0, [B, X], command(9)), press(X)),
                         [(0, A, 0, 1), (1, 9, 0, 2)])


class MapsOverOneAnotherTest(unittest.TestCase):
    LOWER = [bind(0, [A], command(10)), bind(0, [B], command(20)), bind(1, [A], command(11))]

    def test_at_first_map_0_alone_is_in_use(self):
        self.assertEqual(events(*self.LOWER, bind(1, [C], command(31)), press(A, C)), [(1, 10, 0, 1), (0, C, 0, 1)])

    def test_the_topmost_that_has_it(self):
        self.assertEqual(events(*self.LOWER, use(1, 0), press(A, B)), [(1, 11, 0, 1), (1, 20, 0, 1)])
        self.assertEqual(events(*self.LOWER, use(0, 1), press(A, B)), [(1, 10, 0, 1), (1, 20, 0, 1)])

    def test_a_shut_one_counts_but_none_below_it(self):
        calls = [key_map(2, 1), bind(2, [C], command(32)), bind(0, [A], command(10)), bind(1, [B], command(21))]
        self.assertEqual(events(*calls, use(1, 2, 0), press(A, B, C)), [(0, A, 0, 1), (1, 21, 0, 1), (1, 32, 0, 1)])
        self.assertEqual(events(*calls, use(2, 1, 0), press(A, B, C)), [(0, A, 0, 1), (0, B, 0, 1), (1, 32, 0, 1)])
        self.assertEqual(events(*calls, use(1, 0, 2), press(A, B, C)), [(1, 10, 0, 1), (1, 21, 0, 1), (1, 32, 0, 1)])

    def test_a_longer_one_below_is_waited_for(self):
        calls = [bind(0, [A, B], command(12)), bind(1, [A], command(11)), use(1, 0)]
        self.assertEqual(events(*calls, press(A)), [])
        self.assertEqual(events(*calls, press(A, B)), [(1, 12, 0, 2)])
        self.assertEqual(events(*calls, press(A), FLUSH), [(1, 11, 0, 1)])

    def test_a_longer_one_below_a_shut_map_is_not_waited_for(self):
        calls = [bind(0, [A, B], command(12)), key_map(1, 1), bind(1, [A], command(11)), use(1, 0)]
        self.assertEqual(events(*calls, press(A, B)), [(1, 11, 0, 1), (0, B, 0, 1)])

    def test_at_once_is_told_by_the_topmost_that_has_it(self):
        longer = bind(0, [A, B], command(2))
        above = [longer, bind(0, [A], command(10), 0), bind(1, [A], command(11), 1), use(1, 0)]
        self.assertEqual(events(*above, press(A)), [(1, 11, 0, 1)])
        below = [longer, bind(0, [A], command(10), 1), bind(1, [A], command(11), 0), use(1, 0)]
        self.assertEqual(events(*below, press(A)), [])

    def test_a_map_in_use_twice(self):
        calls = [bind(1, [A], command(11)), bind(1, [B], TAKE), bind(0, [A], command(10)), use(1, 1, 0)]
        self.assertEqual(events(*calls, press(A, B, A, B, A, B)),
                         [(1, 11, 0, 1), (3, 1, 0, 1), (1, 11, 0, 1), (3, 0, 0, 1), (1, 10, 0, 1), (0, B, 0, 1)])


class PurposesTest(unittest.TestCase):
    def test_a_command(self):
        for number in (0, 999):
            self.assertEqual(events(bind(0, [A, B], command(number)), press(A, B)), [(1, number, 0, 2)])

    def test_keys_that_come_instead(self):
        calls = [bind(0, [A], instead(B, C, X)), bind(0, [B, C], command(5))]
        self.assertEqual(events(*calls, press(A, Y)), [(1, 5, 0, 2), (0, X, 0, 1), (0, Y, 0, 1)])

    def test_keys_that_come_instead_stand_for_keys_again(self):
        calls = [bind(0, [A], instead(B, X)), bind(0, [B], instead(C, Y)), bind(0, [C], command(5))]
        self.assertEqual(events(*calls, press(A)), [(1, 5, 0, 1), (0, Y, 0, 1), (0, X, 0, 1)])

    def test_keys_that_come_instead_may_be_open(self):
        calls = [bind(0, [A], instead(B)), bind(0, [B, C], command(5))]
        self.assertEqual(events(*calls, press(A)), [])
        self.assertEqual(events(*calls, press(A, C)), [(1, 5, 0, 2)])

    def test_keys_that_come_instead_are_ahead_of_those_that_come_again(self):
        calls = [bind(0, [A], instead(X, Y)), bind(0, [A, B, C], command(5))]
        self.assertEqual(events(*calls, press(A, B, D)),
                         [(0, X, 0, 1), (0, Y, 0, 1), (0, B, 0, 1), (0, D, 0, 1)])
        self.assertEqual(events(*calls, bind(0, [Y, B], command(6)), press(A, B, D)),
                         [(0, X, 0, 1), (1, 6, 0, 2), (0, D, 0, 1)])

    def test_keys_that_come_again_are_ahead_of_the_rest_of_those_that_come_instead(self):
        calls = [bind(0, [Y], instead(A, B, X, D)), bind(0, [A, B, C], command(5))]
        self.assertEqual(events(*calls, press(Y)), [(0, A, 0, 1), (0, B, 0, 1), (0, X, 0, 1), (0, D, 0, 1)])

    def test_keys_that_come_instead_keep_the_count(self):
        calls = [bind(0, [A], instead(TWO, B)), bind(0, [B], command(5))]
        self.assertEqual(events(*calls, press(ONE, A)), [(1, 5, 12, 3)])

    def test_keys_as_they_are(self):
        calls = [bind(0, [A, B], as_they_are(C, A, ONE)), bind(0, [C], command(5))]
        self.assertEqual(events(*calls, press(A, B, X)), [(0, C, 0, 2), (0, A, 0, 0), (0, ONE, 0, 0), (0, X, 0, 1)])

    def test_keys_as_they_are_with_digits(self):
        calls = [bind(0, [A, B], as_they_are(NINE, X, ZERO))]
        self.assertEqual(events(*calls, press(ONE, TWO, A, B, Y)),
                         [(0, NINE, 12, 4), (0, X, 0, 0), (0, ZERO, 0, 0), (0, Y, 0, 1)])

    def test_no_keys_as_they_are(self):
        calls = [bind(0, [A, B], as_they_are())]
        self.assertEqual(events(*calls, press(A, B)), [(4, 0, 0, 2)])
        self.assertEqual(events(*calls, press(ONE, TWO, A, B, X)), [(4, 0, 12, 4), (0, X, 0, 1)])

    def test_nothing(self):
        self.assertEqual(events(bind(0, [A], NOTHING), press(A, TWO, A, X)),
                         [(4, 0, 0, 1), (4, 0, 2, 2), (0, X, 0, 1)])

    def test_a_map_is_put_on_top(self):
        calls = [bind(0, [A], put(1)), bind(1, [B], command(21)), bind(0, [C], command(30))]
        self.assertEqual(events(*calls, press(A, B, C)), [(3, 1, 0, 1), (1, 21, 0, 1), (1, 30, 0, 1)])
        self.assertEqual(events(*calls, press(TWO, A, X)), [(3, 1, 2, 2), (0, X, 0, 1)])

    def test_six_in_use_and_nothing_is_put(self):
        calls = [bind(0, [A], put(1)), bind(2, [B], command(22)), bind(1, [B], command(21)), bind(0, [D], TAKE)]
        self.assertEqual(events(*calls, use(2, 0, 0, 0, 0, 0), press(A, B)), [(3, 2, 0, 1), (1, 22, 0, 1)])
        self.assertEqual(events(*calls, use(2, 0, 0, 0, 0), press(A, B, A)),
                         [(3, 1, 0, 1), (1, 21, 0, 1), (3, 1, 0, 1)])
        # None of the six is lost either: the last of them is there at the end.
        self.assertEqual(events(*calls, use(2, 3, 4, 5, 6, 0), press(A, D, D, D, D, D, D)),
                         [(3, 2, 0, 1), (3, 3, 0, 1), (3, 4, 0, 1), (3, 5, 0, 1), (3, 6, 0, 1), (3, 0, 0, 1),
                          (3, 0, 0, 1)])

    def test_the_top_map_is_taken_away(self):
        calls = [bind(1, [A], TAKE), bind(1, [B], command(21)), bind(0, [B], command(20)), use(1, 0)]
        self.assertEqual(events(*calls, press(B, A, B)), [(1, 21, 0, 1), (3, 0, 0, 1), (1, 20, 0, 1)])

    def test_the_last_one_stays(self):
        calls = [bind(3, [A], TAKE), bind(3, [B], command(23)), use(3)]
        self.assertEqual(events(*calls, press(TWO, A, B)), [(3, 3, 2, 2), (1, 23, 0, 1)])

    def test_the_top_map_is_exchanged(self):
        calls = [bind(1, [A], exchange(2)), bind(1, [B], command(21)), bind(0, [B], command(20)),
                 bind(0, [D], TAKE), bind(2, [C], command(32))]
        self.assertEqual(events(*calls, use(1, 0), press(A, B, C, D, C)),
                         [(3, 2, 0, 1), (1, 20, 0, 1), (1, 32, 0, 1), (3, 0, 0, 1), (0, C, 0, 1)])
        self.assertEqual(events(*calls, use(1), press(A, B, C)), [(3, 2, 0, 1), (0, B, 0, 1), (1, 32, 0, 1)])
        self.assertEqual(events(*calls, use(1, 0, 0, 0, 0, 0), press(A, C)), [(3, 2, 0, 1), (1, 32, 0, 1)])

    def test_keys_coming_again_meet_the_new_map(self):
        calls = [bind(0, [A], put(1)), bind(0, [A, B, C], command(5)), bind(1, [B, X], command(6))]
        self.assertEqual(events(*calls, press(A, B, X)), [(3, 1, 0, 1), (1, 6, 0, 2)])

    def test_maps_in_use_stay_so_for_the_next_call(self):
        calls = [bind(0, [A], put(1)), bind(1, [B], command(21)), press(A)]
        self.assertEqual(events(*calls, press(B)), [(1, 21, 0, 1)])


class DigitsTest(unittest.TestCase):
    def test_ahead_of_a_command(self):
        self.assertEqual(events(bind(0, [A, B], command(5)), press(ONE, TWO, ZERO, A, B)), [(1, 5, 120, 5)])

    def test_ahead_of_a_key_by_itself(self):
        self.assertEqual(events(press(NINE, X)), [(0, X, 9, 2)])

    def test_they_are_gone_then(self):
        self.assertEqual(events(bind(0, [A], command(5)), press(TWO, A, A, ONE, X, X)),
                         [(1, 5, 2, 2), (1, 5, 0, 1), (0, X, 1, 2), (0, X, 0, 1)])

    def test_which_keys_are_digits(self):
        for key in range(49, 58):
            self.assertEqual(events(press(key, X)), [(0, X, key - 48, 2)])
        for key in (47, 58):
            self.assertEqual(events(press(key, X)), [(0, key, 0, 1), (0, X, 0, 1)])
            self.assertEqual(events(press(ONE, key, X)), [(0, key, 1, 2), (0, X, 0, 1)])

    def test_48_first_comes_of_itself(self):
        self.assertEqual(events(press(ZERO, X)), [(0, ZERO, 0, 1), (0, X, 0, 1)])
        self.assertEqual(events(press(ZERO, ONE, X)), [(0, ZERO, 0, 1), (0, X, 1, 2)])
        self.assertEqual(events(press(ONE, ZERO, ZERO, X)), [(0, X, 100, 4)])

    def test_four_digits_and_a_fifth(self):
        self.assertEqual(events(press(NINE, NINE, NINE, NINE, X)), [(0, X, 9999, 5)])
        self.assertEqual(events(press(ONE, TWO, ONE, TWO, NINE, X)), [(0, NINE, 1212, 5), (0, X, 0, 1)])
        self.assertEqual(events(press(ONE, TWO, ONE, TWO, ZERO, ONE, X)), [(0, ZERO, 1212, 5), (0, X, 1, 2)])

    def test_a_digit_that_is_bound_is_no_count(self):
        self.assertEqual(events(bind(0, [ONE], command(5)), press(TWO, ONE, X)), [(1, 5, 2, 2), (0, X, 0, 1)])

    def test_a_digit_that_begins_a_sequence_is_open_first(self):
        calls = [bind(0, [ONE, A], command(5))]
        self.assertEqual(events(*calls, press(ONE, A)), [(1, 5, 0, 2)])
        self.assertEqual(events(*calls, press(ONE, X)), [(0, X, 1, 2)])
        self.assertEqual(events(*calls, press(ONE, ONE, A)), [(1, 5, 1, 3)])

    def test_they_stay_from_press_to_press_and_while_it_is_waited(self):
        self.assertEqual(events(press(ONE), press(TWO, ticks=500), FLUSH, press(X, ticks=HUGE)), [(0, X, 12, 3)])

    def test_each_key_is_used_once(self):
        calls = [bind(0, [A, B], command(1)), bind(0, [A], as_they_are(X, Y)), bind(0, [ONE, TWO, A], NOTHING),
                 bind(0, [B, A, ONE], put(1)), bind(1, [B], TAKE), bind(1, [A, A, A, A], as_they_are())]
        seed = 1
        for turn in range(300):
            keys = []
            for place in range(19):
                seed = (seed * 1103515245 + 12345) % 2147483648
                keys.append((A, B, ONE, TWO, ZERO)[seed // 65536 % 5])
            told = events(*calls, press(*keys, C))
            self.assertEqual(sum(event[3] for event in told), 20, keys)


class RingTest(unittest.TestCase):
    def test_a_key_that_stands_for_itself(self):
        self.assertEqual(events(bind(0, [A], instead(A)), press(A)), [(2, 0, 0, 1)])

    def test_two_that_stand_for_one_another(self):
        calls = [bind(0, [A, A], instead(B)), bind(0, [B], instead(A, A))]
        # The 51st time is told, and of two in turn that is the first one again.
        self.assertEqual(events(*calls, press(A, A)), [(2, 0, 0, 2)])
        self.assertEqual(events(*calls, press(B)), [(2, 0, 0, 1)])

    def test_a_ring_takes_the_count(self):
        self.assertEqual(events(bind(0, [A], instead(A)), press(ONE, TWO, A, X)), [(2, 0, 12, 3), (0, X, 0, 1)])

    def test_fifty_times_are_no_ring_and_one_more_is(self):
        tree = [bind(0, [X], instead(*[Y] * 6)), bind(0, [Y], instead(*[D] * 6)), bind(0, [D], instead(C)),
                bind(0, [C], command(5))]
        # 1 for X, 6 for the Ys, 36 for the Ds: 43 times.
        self.assertEqual(events(*tree, press(X)), [(1, 5, 0, 1)] * 36)
        seven = [bind(0, [B], instead(X, D, D, D, D, D))]
        # 1 for B, 43 for X, 5 for the Ds behind it: 49 times.
        self.assertEqual(events(*tree, *seven, press(B)), [(1, 5, 0, 1)] * 41)
        fifty = [*seven, bind(0, [A], instead(B))]
        self.assertEqual(events(*tree, *fifty, press(A)), [(1, 5, 0, 1)] * 41)
        fifty_one = [*fifty, bind(0, [NINE], instead(A))]
        self.assertEqual(events(*tree, *fifty_one, press(NINE)), [(1, 5, 0, 1)] * 40 + [(2, 0, 0, 1)])

    def test_fifty_rounds_are_gone_before_it_is_told(self):
        told = events(bind(0, [A], instead(X, A)), press(A))
        self.assertEqual(told, [(0, X, 0, 1)] * 50 + [(2, 0, 0, 1)])

    def test_keys_to_come_are_dropped(self):
        self.assertEqual(events(bind(0, [A], instead(A, X)), press(A)), [(2, 0, 0, 1)])

    def test_keys_that_would_come_again_are_dropped(self):
        calls = [bind(0, [A], instead(A, B)), bind(0, [A, B, C], command(5))]
        # A and B wait for a C, so from the second round on each A is settled with a B that comes again.
        self.assertEqual(events(*calls, press(A, X)), [(2, 0, 0, 1)])

    def test_nothing_is_left_of_it_for_the_next_key(self):
        calls = [bind(0, [A], instead(A, X)), press(A)]
        self.assertEqual(events(*calls, press(Y)), [(0, Y, 0, 1)])
        self.assertEqual(events(*calls, FLUSH), [])

    def test_the_keys_pressed_behind_it_are_gone_through(self):
        self.assertEqual(events(bind(0, [A], instead(A)), press(A, X, A)), [(2, 0, 0, 1), (0, X, 0, 1), (2, 0, 0, 1)])

    # An A puts keys 31 times (itself, 5 Bs, 25 Cs) and ends in 25 events.
    MANY = [bind(0, [A], instead(B, B, B, B, B)), bind(0, [B], instead(C, C, C, C, C)), bind(0, [C], instead(D)),
            bind(0, [D], NOTHING)]

    def test_it_is_counted_anew_for_each_key_pressed(self):
        self.assertEqual(events(*self.MANY, press(A, A, A)), [(4, 0, 0, 1)] * 75)
        self.assertEqual(events(*self.MANY, press(A), press(A)), [(4, 0, 0, 1)] * 25)

    def test_it_is_counted_anew_when_it_begins_to_be_waited_long_enough(self):
        calls = [*self.MANY, bind(0, [A, X], NOTHING), bind(0, [Y], instead(A, A)), press(Y)]
        # Of the two As that Y stands for, the first is settled by the second, which is open then.
        self.assertEqual(events(*calls), [(4, 0, 0, 1)] * 25)
        self.assertEqual(events(*calls, FLUSH), [(4, 0, 0, 1)] * 25)
        self.assertEqual(events(*calls, press(D, ticks=10)), [(4, 0, 0, 1)] * 26)

    def test_it_is_counted_on_while_several_keys_are_settled_by_one_wait(self):
        calls = [*self.MANY, bind(0, [A, A, X], NOTHING), press(A, A)]
        # 31 times for the first A; then the second, 3 of its Bs and their Cs: 19 times; the 4th B is one too many.
        self.assertEqual(events(*calls, FLUSH), [(4, 0, 0, 1)] * 40 + [(2, 0, 0, 1)])

    def test_it_is_counted_anew_for_the_keys_behind_a_wait(self):
        calls = [*self.MANY, bind(0, [A, X], NOTHING), press(A)]
        self.assertEqual(events(*calls, press(A, D, ticks=10)), [(4, 0, 0, 1)] * 51)

    def test_a_ring_while_it_is_waited_long_enough(self):
        calls = [bind(0, [A], instead(A, B)), bind(0, [A, C], command(5)), press(A)]
        # A waits for C; once settled it is A and B, and that A and B go on round.
        self.assertEqual(events(*calls, FLUSH), [(2, 0, 0, 1)])
        self.assertEqual(events(*calls, FLUSH, FLUSH), [])
        self.assertEqual(events(*calls, press(X, ticks=10)), [(2, 0, 0, 1), (0, X, 0, 1)])

    def test_fifty_rounds_while_it_is_waited_long_enough(self):
        calls = [bind(0, [A], instead(X, A)), bind(0, [A, C], command(5)), press(A)]
        self.assertEqual(events(*calls, FLUSH), [(0, X, 0, 1)] * 50 + [(2, 0, 0, 1)])


class WaitedLongEnoughTest(unittest.TestCase):
    CALLS = [bind(0, [A], command(1)), bind(0, [A, B], command(2))]

    def test_the_time_to_wait_is_10_at_first(self):
        self.assertEqual(events(*self.CALLS, press(A), press(B, ticks=9)), [(1, 2, 0, 2)])
        self.assertEqual(events(*self.CALLS, press(A), press(B, ticks=10)), [(1, 1, 0, 1), (0, B, 0, 1)])
        self.assertEqual(events(*self.CALLS, press(A), press(B, ticks=HUGE)), [(1, 1, 0, 1), (0, B, 0, 1)])

    def test_another_time_to_wait(self):
        for ticks in (1, 2, 1000):
            calls = [*self.CALLS, wait(ticks), press(A)]
            self.assertEqual(events(*calls, press(B, ticks=ticks - 1)), [(1, 2, 0, 2)])
            self.assertEqual(events(*calls, press(B, ticks=ticks)), [(1, 1, 0, 1), (0, B, 0, 1)])
            self.assertEqual(events(*calls, press(B, ticks=ticks + 1)), [(1, 1, 0, 1), (0, B, 0, 1)])

    def test_within_one_press_no_time_goes(self):
        self.assertEqual(events(*self.CALLS, wait(1), press(A, B, ticks=1000)), [(1, 2, 0, 2)])

    def test_ticks_do_not_add_up(self):
        calls = [bind(0, [A, B, C], command(3)), press(A), press(B, ticks=9), press(C, ticks=9)]
        self.assertEqual(events(*calls), [(1, 3, 0, 3)])

    def test_what_comes_again_is_gone_through_and_settled_too(self):
        calls = [bind(0, [A, A, A, X], command(4)), bind(0, [A], command(1)), press(A, A, A)]
        self.assertEqual(events(*calls, FLUSH), [(1, 1, 0, 1)] * 3)
        self.assertEqual(events(*calls, press(X, ticks=10)), [(1, 1, 0, 1)] * 3 + [(0, X, 0, 1)])

    def test_flush_without_open_keys(self):
        self.assertEqual(last(FLUSH), [0])
        self.assertEqual(last(*self.CALLS, press(A, B), FLUSH), [0])
        self.assertEqual(events(press(TWO), FLUSH, press(X)), [(0, X, 2, 2)])

    def test_flush_with_open_keys(self):
        self.assertEqual(last(*self.CALLS, press(A), FLUSH), [1, 1, 1, 0, 1])
        self.assertEqual(last(*self.CALLS, press(A), FLUSH, FLUSH), [0])
        self.assertEqual(events(*self.CALLS, press(TWO, A), FLUSH), [(1, 1, 2, 2)])

    def test_flush_leaves_nothing_open(self):
        self.assertEqual(events(*self.CALLS, press(A), FLUSH, press(B)), [(0, B, 0, 1)])

    def test_open_digits_become_a_count(self):
        calls = [bind(0, [ONE, A], command(5)), press(ONE), FLUSH]
        self.assertEqual(events(*calls), [])
        self.assertEqual(events(*calls, press(A)), [(0, A, 1, 2)])


if __name__ == "__main__":
    unittest.main()
