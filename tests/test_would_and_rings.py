"""would and rings, and promise 3 as far as would goes."""

import unittest

from tests.calls import (FLUSH, HIDDEN, HUGE, NOTHING, OPEN, RINGS, TAKE, as_they_are, bind, command, events, exchange,
                         hints, instead, key_map, last, lookup, press, put, run, unbind, use, wait, would)

A, B, C, D, X, Y = 97, 98, 99, 100, 120, 121
ZERO, ONE, TWO = 48, 49, 50

# An A puts keys 31 times (itself, 5 Bs, 25 Cs) and ends in 25 events.
MANY = [bind(0, [A], instead(B, B, B, B, B)), bind(0, [B], instead(C, C, C, C, C)), bind(0, [C], instead(D)),
        bind(0, [D], NOTHING)]


def unchanged(test, calls, asked):
    """All that can be seen of the keyboard is the same with and without what is asked."""
    for behind in ([OPEN], [HIDDEN], [RINGS], [hints()], [lookup(A)], [FLUSH], [press(B)], [press(X)], [press(A)],
                   [press(B, ticks=10)], [press(B, ticks=9)], [press(A, B, C, ONE, X), OPEN], [would(A), FLUSH]):
        test.assertEqual(run(*calls, asked, *behind)[len(calls) + 1:], run(*calls, *behind)[len(calls):])


class WouldTest(unittest.TestCase):
    OPENED = [bind(0, [A, B], command(5)), bind(0, [A], command(6)), press(ONE, TWO, A)]

    def test_with_nothing_open(self):
        self.assertEqual(last(would(X, Y)), [2, 0, X, 0, 1, 0, Y, 0, 1])
        self.assertEqual(events(bind(0, [A, B], command(5)), would(A, B, TWO, A, B)), [(1, 5, 0, 2), (1, 5, 2, 3)])

    def test_with_open_keys_and_digits(self):
        self.assertEqual(events(*self.OPENED, would(B)), [(1, 5, 12, 4)])
        self.assertEqual(events(*self.OPENED, would(X)), [(1, 6, 12, 3), (0, X, 0, 1)])
        self.assertEqual(events(*self.OPENED, would(B, A)), [(1, 5, 12, 4), (1, 6, 0, 1)])

    def test_with_digits_alone(self):
        self.assertEqual(events(press(ONE), would(TWO, X)), [(0, X, 12, 3)])
        self.assertEqual(events(press(ONE), would(ZERO)), [])

    def test_no_keys(self):
        self.assertEqual(last(would()), [0])
        self.assertEqual(last(press(ONE), would()), [0])
        self.assertEqual(events(*self.OPENED, would()), [(1, 6, 12, 3)])

    def test_waited_long_enough_behind_the_keys(self):
        calls = [bind(0, [A, A, A, X], command(4)), bind(0, [A], command(1))]
        self.assertEqual(events(*calls, would(A, A, A)), [(1, 1, 0, 1)] * 3)
        self.assertEqual(events(*calls, press(A), would(A)), [(1, 1, 0, 1)] * 2)

    def test_not_waited_ahead_of_them(self):
        for ticks in (1, 1000):
            self.assertEqual(events(*self.OPENED, wait(ticks), would(B)), [(1, 5, 12, 4)])

    def test_with_a_ring(self):
        calls = [bind(0, [A], instead(A, B)), bind(0, [C, X], NOTHING), bind(0, [C], instead(C))]
        self.assertEqual(events(*calls, would(TWO, A, X)), [(2, 0, 2, 2), (0, X, 0, 1)])
        self.assertEqual(events(*calls, would(C)), [(2, 0, 0, 1)])
        self.assertEqual(events(*calls, press(C), would()), [(2, 0, 0, 1)])

    def test_it_is_counted_anew_for_each_key_and_for_the_wait(self):
        self.assertEqual(events(*MANY, would(A, A)), [(4, 0, 0, 1)] * 50)
        self.assertEqual(events(*MANY, press(A), would(A)), [(4, 0, 0, 1)] * 25)
        calls = [*MANY, bind(0, [A, X], NOTHING), bind(0, [Y], instead(A, A))]
        self.assertEqual(events(*calls, would(Y)), [(4, 0, 0, 1)] * 50)
        calls = [*MANY, bind(0, [A, A, X], NOTHING)]
        self.assertEqual(events(*calls, would(A, A)), [(4, 0, 0, 1)] * 40 + [(2, 0, 0, 1)])

    def test_a_ring_leaves_no_trace_for_the_next_key(self):
        calls = [*MANY, bind(0, [X], instead(X)), would(X)]
        self.assertEqual(events(*calls, press(A)), [(4, 0, 0, 1)] * 25)

    def test_with_maps_put_taken_away_and_exchanged(self):
        calls = [bind(0, [A], put(1)), bind(1, [A], exchange(2)), bind(2, [A], TAKE), bind(1, [B], command(21)),
                 bind(2, [B], command(22))]
        self.assertEqual(events(*calls, would(A, B, A, B, A, B)),
                         [(3, 1, 0, 1), (1, 21, 0, 1), (3, 2, 0, 1), (1, 22, 0, 1), (3, 0, 0, 1), (0, B, 0, 1)])
        self.assertEqual(last(*calls, would(A), OPEN), [0, 0, 1, 0])
        self.assertEqual(last(*calls, would(A, A), OPEN), [0, 0, 1, 0])
        self.assertEqual(last(*calls, use(2, 0), would(A), OPEN), [0, 0, 2, 2, 0])
        self.assertEqual(last(*calls, use(1), would(A), OPEN), [0, 0, 1, 1])
        for in_use in ([0], [1, 0], [2, 0], [2], [0, 0, 0, 0, 0, 0]):
            for asked in (would(A), would(A, A), would(A, A, A), would(ONE, A, B)):
                unchanged(self, [*calls, use(*in_use)], asked)

    def test_maps_taken_away_while_it_is_waited(self):
        calls = [bind(1, [A], TAKE), bind(1, [A, B], NOTHING), use(1, 0), press(A)]
        self.assertEqual(events(*calls, would()), [(3, 0, 0, 1)])
        self.assertEqual(last(*calls, would(), OPEN), [1, A, 0, 2, 1, 0])

    def test_all_is_as_it_was_behind_it(self):
        for asked in (would(), would(B), would(A), would(X, ONE), would(*[A] * 20)):
            unchanged(self, self.OPENED, asked)

    def test_all_is_as_it_was_behind_a_refusal(self):
        for asked in (would(256), would(B, 256), would(*[B] * 21)):
            self.assertEqual(last(*self.OPENED, asked), [-1])
            unchanged(self, self.OPENED, asked)

    def test_the_same_each_time(self):
        told = run(*self.OPENED, would(B, X), would(B, X), would(), would(B, X))[3:]
        self.assertEqual(told[0], told[1])
        self.assertEqual(told[0], told[3])

    def test_it_is_what_press_and_flush_tell_together(self):
        bindings = [bind(0, [A], command(1)), bind(0, [A, B, A], put(1)), bind(1, [B], instead(A, A, B)),
                    bind(1, [A, A], instead(B, X)), bind(1, [A, B], TAKE), bind(0, [B, ONE], exchange(2)),
                    bind(2, [A, A, B], as_they_are(ONE, A)), bind(2, [B], exchange(0), 1), bind(0, [C], instead(C, C))]
        seed = 7
        for turn in range(200):
            keys = []
            for place in range(16):
                seed = (seed * 1103515245 + 12345) % 2147483648
                keys.append((A, B, A, B, ONE, ZERO, C)[seed // 65536 % 7])
            calls = [*bindings, press(*keys[:8])]
            done = events(*calls, press(*keys[8:])) + events(*calls, press(*keys[8:]), FLUSH)
            self.assertEqual(events(*calls, would(*keys[8:])), done, keys)
            self.assertEqual(last(*calls, would(*keys[8:]), OPEN), last(*calls, OPEN), keys)

    def test_how_many_keys(self):
        self.assertEqual(last(would(*[X] * 20))[0], 20)
        for how_many in (21, 40):
            self.assertEqual(last(would(*[X] * how_many)), [-1])

    def test_keys_from_0_to_255(self):
        self.assertEqual(events(would(0, 255)), [(0, 0, 0, 1), (0, 255, 0, 1)])
        for keys in ([256], [HUGE], [X, 256], [256, X], [X] * 19 + [256]):
            self.assertEqual(last(would(*keys)), [-1])


class RingsTest(unittest.TestCase):
    def test_none(self):
        self.assertEqual(last(RINGS), [0])
        self.assertEqual(last(bind(0, [A], instead(B)), bind(0, [B], instead(X)), bind(0, [C], NOTHING), RINGS), [0])

    def test_one_that_stands_for_itself(self):
        self.assertEqual(last(bind(0, [A], instead(A)), RINGS), [1, 1, A])
        self.assertEqual(last(bind(0, [A, B, C, D], instead(A, B, C, D)), RINGS), [1, 4, A, B, C, D])

    def test_sequences_that_stand_for_one_another(self):
        calls = [bind(0, [A, B], instead(C)), bind(0, [C], instead(D, X)), bind(0, [D, X], instead(A, B)),
                 bind(0, [B], command(5))]
        self.assertEqual(last(*calls, RINGS), [3, 2, A, B, 1, C, 2, D, X])

    def test_one_that_only_comes_into_a_ring(self):
        calls = [bind(0, [A], instead(B)), bind(0, [B], instead(B)), bind(0, [C], instead(X, A))]
        self.assertEqual(last(*calls, RINGS), [3, 1, A, 1, B, 1, C])

    def test_as_they_are_is_no_ring(self):
        self.assertEqual(last(bind(0, [A], as_they_are(A)), RINGS), [0])

    def test_a_key_that_is_not_bound_itself_is_not_told(self):
        # A alone only begins a sequence, and pressed by itself it stands for nothing.
        self.assertEqual(last(bind(0, [A, B], instead(A, B)), RINGS), [1, 2, A, B])

    def test_fifty_times_are_no_ring_and_one_more_is(self):
        tree = [bind(0, [X], instead(*[Y] * 6)), bind(0, [Y], instead(*[D] * 6)), bind(0, [D], instead(C)),
                bind(0, [B], instead(X, D, D, D, D, D)), bind(0, [A], instead(B))]
        # Of A that is 50 times, with 43 for the X in it.
        self.assertEqual(last(*tree, RINGS), [0])
        self.assertEqual(last(*tree, bind(0, [TWO], instead(A)), RINGS), [1, 1, TWO])

    def test_only_once_waited_long_enough(self):
        calls = [bind(0, [A], instead(A)), bind(0, [A, B], command(5))]
        self.assertEqual(events(*calls, press(A)), [])
        self.assertEqual(last(*calls, RINGS), [1, 1, A])

    def test_only_by_keys_that_come_again_once_waited(self):
        # The wait for an A, D, C is over with A, and the D behind it comes again and is waited for.
        calls = [bind(0, [A, D, C], command(5)), bind(0, [X], instead(A, D)), bind(0, [D, D], NOTHING),
                 bind(0, [D], instead(D))]
        self.assertEqual(last(*calls, RINGS), [2, 1, X, 1, D])

    def test_counted_anew_when_it_begins_to_be_waited(self):
        calls = [*MANY, bind(0, [A, X], NOTHING), bind(0, [Y], instead(A, A))]
        # One A is settled by the other, and that one by the wait: 32 times, and 31.
        self.assertEqual(last(*calls, RINGS), [0])
        self.assertEqual(last(*calls, bind(0, [Y], instead(A, A, A)), RINGS), [1, 1, Y])

    def test_counted_anew_for_each_key(self):
        calls = [*MANY, bind(0, [X, X], NOTHING)]
        # Each X is 32 times, and done at once it is over when the next one is pressed.
        self.assertEqual(last(*calls, bind(0, [X], instead(A), 1), RINGS), [0])
        # Here the wait settles both of them: 64 times.
        calls = [*MANY, bind(0, [X], instead(A)), bind(0, [X, X, X], NOTHING), bind(0, [Y], instead(X, X))]
        self.assertEqual(last(*calls, RINGS), [1, 1, Y])

    def test_by_a_map_that_is_put_on_top(self):
        calls = [bind(0, [A], put(1)), bind(0, [B], instead(A, C)), bind(1, [C], instead(C))]
        self.assertEqual(last(*calls, RINGS), [1, 1, B])
        self.assertEqual(last(*calls, use(1, 0), RINGS), [2, 1, C, 1, B])
        self.assertEqual(last(*calls, RINGS, OPEN), [0, 0, 1, 0])

    def test_each_is_pressed_with_the_maps_that_are_in_use_now(self):
        # Were A's map still on top, C would be no ring.
        calls = [bind(0, [A], put(1)), bind(1, [C], NOTHING), bind(0, [C], instead(C))]
        self.assertEqual(last(*calls, RINGS), [1, 1, C])
        # And here X would be one, if D's map were still there.
        calls = [bind(0, [D], exchange(2)), bind(2, [X], instead(X)), bind(0, [X], NOTHING)]
        self.assertEqual(last(*calls, RINGS), [0])

    def test_an_exchange_in_each_round(self):
        calls = [bind(0, [A], instead(B, A)), bind(0, [B], exchange(1)), bind(1, [B], exchange(0)),
                 bind(1, [A], instead(B, A))]
        self.assertEqual(last(*calls, RINGS), [1, 1, A])
        self.assertEqual(last(*calls, RINGS, OPEN), [0, 0, 1, 0])

    def test_a_map_that_is_taken_away_ends_it(self):
        calls = [bind(1, [A], instead(B, A)), bind(1, [B], TAKE)]
        self.assertEqual(last(*calls, use(1, 0), RINGS), [0])
        self.assertEqual(last(*calls, use(1), RINGS), [1, 1, A])
        self.assertEqual(last(*calls, use(1, 0), RINGS, OPEN), [0, 0, 2, 1, 0])

    def test_with_nothing_open_and_no_digits(self):
        calls = [bind(0, [A], instead(A)), bind(0, [X, A], command(5)), bind(0, [ZERO], instead(ONE, ZERO))]
        self.assertEqual(last(*calls, RINGS), [2, 1, A, 1, ZERO])
        # An open X ahead of A would be command 5.
        self.assertEqual(last(*calls, press(ONE, X), RINGS), [2, 1, A, 1, ZERO])
        self.assertEqual(last(*calls, press(ONE, TWO, ONE, TWO), RINGS), [2, 1, A, 1, ZERO])

    def test_open_keys_make_no_ring_of_others(self):
        calls = [bind(0, [A], instead(A)), bind(0, [A, X], NOTHING), bind(0, [B], NOTHING), press(A)]
        self.assertEqual(last(*calls, RINGS), [1, 1, A])

    def test_all_is_as_it_was_behind_it(self):
        calls = [bind(0, [A], instead(A)), bind(0, [A, B], command(5)), bind(0, [X], put(1)), bind(0, [C], TAKE),
                 bind(0, [D], exchange(1)), use(0, 0), press(TWO, A)]
        self.assertEqual(last(*calls, RINGS), [1, 1, A])
        unchanged(self, calls, RINGS)
        self.assertEqual(last(*calls, RINGS, OPEN), [1, A, 1, TWO, 2, 0, 0])
        self.assertEqual(events(*calls, RINGS, press(B)), [(1, 5, 2, 3)])

    def test_by_the_maps_from_the_top(self):
        calls = [bind(1, [B], instead(B)), bind(2, [A], instead(A)), bind(1, [C], instead(C)), bind(2, [D], instead(D))]
        self.assertEqual(last(*calls, use(1, 2), RINGS), [4, 1, B, 1, C, 1, A, 1, D])
        self.assertEqual(last(*calls, use(2, 1), RINGS), [4, 1, A, 1, D, 1, B, 1, C])

    def test_a_sequence_of_two_maps_once_at_the_upper_one(self):
        calls = [bind(1, [A], instead(A)), bind(2, [B], instead(B)), bind(2, [A], instead(A))]
        self.assertEqual(last(*calls, use(1, 2), RINGS), [2, 1, A, 1, B])
        self.assertEqual(last(*calls, use(2, 1), RINGS), [2, 1, B, 1, A])

    def test_what_a_map_above_has_for_it(self):
        calls = [bind(1, [A], NOTHING), bind(2, [A], instead(A))]
        self.assertEqual(last(*calls, use(1, 2), RINGS), [0])
        self.assertEqual(last(*calls, use(2, 1), RINGS), [1, 1, A])

    def test_a_map_that_counts_twice(self):
        calls = [bind(1, [A], instead(A)), bind(2, [B], instead(B))]
        self.assertEqual(last(*calls, use(1, 1), RINGS), [1, 1, A])
        self.assertEqual(last(*calls, use(1, 2, 1, 2), RINGS), [2, 1, A, 1, B])

    def test_a_map_that_is_there_twice_and_taken_away_once(self):
        calls = [bind(1, [A], instead(B, A)), bind(1, [B], TAKE), bind(0, [A], instead(A))]
        self.assertEqual(last(*calls, use(1, 1, 2), RINGS), [0])
        self.assertEqual(last(*calls, use(1, 1, 0), RINGS), [1, 1, A])

    def test_only_maps_that_count(self):
        calls = [key_map(1, 1), bind(1, [A], instead(A)), bind(2, [B], instead(B)), bind(1, [C], instead(B))]
        self.assertEqual(last(*calls, use(1, 2), RINGS), [1, 1, A])
        self.assertEqual(last(*calls, use(2, 1), RINGS), [3, 1, B, 1, A, 1, C])

    def test_one_that_is_cut_short_by_a_beginning_done_at_once(self):
        calls = [bind(0, [A], NOTHING, 1), bind(0, [A, B], instead(A, B))]
        self.assertEqual(last(*calls, RINGS), [0])
        self.assertEqual(last(*calls, bind(0, [A], instead(A), 1), RINGS), [2, 2, A, B, 1, A])
        self.assertEqual(last(*calls, bind(0, [B], instead(B)), RINGS), [2, 2, A, B, 1, B])

    def test_the_order_in_which_they_were_bound(self):
        calls = [bind(0, [C], instead(C)), bind(0, [A], instead(A)), bind(0, [B, B], instead(A))]
        self.assertEqual(last(*calls, RINGS), [3, 1, C, 1, A, 2, B, B])
        self.assertEqual(last(*calls, bind(0, [C], instead(A)), RINGS), [3, 1, A, 2, B, B, 1, C])
        self.assertEqual(last(*calls, bind(0, [A], instead(A)), RINGS), [3, 1, C, 2, B, B, 1, A])
        self.assertEqual(last(*calls, unbind(0, [C]), bind(0, [C], instead(C)), RINGS), [3, 1, A, 2, B, B, 1, C])


if __name__ == "__main__":
    unittest.main()
