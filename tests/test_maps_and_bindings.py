"""Promises 1 and 2: map, bind, unbind, use, wait."""

import unittest

from tests.calls import (FLUSH, HUGE, NOTHING, TAKE, as_they_are, bind, command, events, exchange, instead, key_map,
                         last, press, put, run, unbind, use, wait)

FULL = [bind(0, [key], command(key)) for key in range(100, 120)]


class MapTest(unittest.TestCase):
    def test_answers_its_number(self):
        for number in range(8):
            self.assertEqual(run(key_map(number), key_map(number, 1)), [[number], [number]])

    def test_no_such_map(self):
        for number in (8, 9, HUGE):
            for shut in (0, 1):
                self.assertEqual(last(key_map(number, shut)), [-2])

    def test_has_no_bindings_then(self):
        calls = [bind(0, [1], command(5)), bind(0, [2], command(6)), key_map(0)]
        self.assertEqual(events(*calls, press(1)), [(0, 1, 0, 1)])
        self.assertEqual(last(*calls, bind(0, [3], command(7))), [1])
        self.assertEqual(last(*calls, unbind(0, [1])), [-6])

    def test_other_maps_keep_theirs(self):
        self.assertEqual(events(bind(0, [1], command(5)), key_map(1, 1), press(1)), [(1, 5, 0, 1)])

    def test_shut_is_set_and_taken_back(self):
        calls = [bind(0, [1], command(5)), use(1, 0), key_map(1, 1)]
        self.assertEqual(events(*calls, press(1)), [(0, 1, 0, 1)])
        self.assertEqual(events(*calls, key_map(1, 0), press(1)), [(1, 5, 0, 1)])

    def test_maps_in_use_stay_in_use(self):
        calls = [use(3), key_map(3), bind(3, [1], command(5)), press(1)]
        self.assertEqual(events(*calls), [(1, 5, 0, 1)])

    def test_a_refusal_leaves_all_as_it_was(self):
        calls = [bind(0, [1], command(5)), key_map(8, 1), key_map(HUGE, 1), press(1)]
        self.assertEqual(events(*calls), [(1, 5, 0, 1)])


class BindTest(unittest.TestCase):
    def test_answers_how_many_the_map_has(self):
        calls = [bind(0, [1], command(0)), bind(0, [1, 2], command(0)), bind(7, [1], command(0)), bind(0, [2], TAKE)]
        self.assertEqual(run(*calls), [[1], [2], [1], [3]])

    def test_takes_the_place_of_the_same_sequence(self):
        calls = [bind(0, [1], command(5), at_once=1), bind(0, [2], command(6)), bind(0, [1], command(7))]
        self.assertEqual(run(*calls), [[1], [2], [2]])
        self.assertEqual(events(*calls, press(1)), [(1, 7, 0, 1)])
        # Whether it is done at once is the new binding's, too.
        calls.append(bind(0, [1, 1], command(8)))
        self.assertEqual(events(*calls, press(1)), [])

    def test_no_such_map(self):
        for number in (8, 9, HUGE):
            self.assertEqual(last(bind(number, [1], command(5))), [-2])

    def test_how_long_a_sequence_is(self):
        self.assertEqual(last(bind(0, [], command(5))), [-1])
        for length in (1, 2, 3, 4):
            self.assertEqual(last(bind(0, [1] * length, command(5))), [1])
        for length in (5, 6, 28):
            self.assertEqual(last(bind(0, [1] * length, command(5))), [-1])

    def test_no_sequence_whatever_it_is_for(self):
        for purpose in (instead(1), as_they_are(), as_they_are(1), put(1), TAKE, exchange(1), NOTHING):
            self.assertEqual(last(bind(0, [], purpose)), [-1])
            self.assertEqual(last(bind(0, [1, 2, 3, 4], purpose)), [1])
            self.assertEqual(last(bind(0, [1, 2, 3, 4, 5], purpose)), [-1])

    def test_keys_of_the_sequence(self):
        for sequence in ([0], [255], [0, 255, 0, 255]):
            self.assertEqual(last(bind(0, sequence, command(5))), [1])
        for sequence in ([256], [HUGE], [256, 1], [1, 2, 3, 256]):
            self.assertEqual(last(bind(0, sequence, command(5))), [-1])

    def test_commands(self):
        for number in (0, 999):
            self.assertEqual(last(bind(0, [1], command(number))), [1])
        for number in (1000, HUGE):
            self.assertEqual(last(bind(0, [1], command(number))), [-1])

    def test_how_many_keys_come_instead(self):
        for how_many in (0, 7, 20):
            self.assertEqual(last(bind(0, [1], instead(*[2] * how_many))), [-1])
        for how_many in (1, 6):
            self.assertEqual(last(bind(0, [1], instead(*[2] * how_many))), [1])

    def test_how_many_keys_as_they_are(self):
        for how_many in (7, 20):
            self.assertEqual(last(bind(0, [1], as_they_are(*[2] * how_many))), [-1])
        for how_many in (0, 1, 6):
            self.assertEqual(last(bind(0, [1], as_they_are(*[2] * how_many))), [1])

    def test_keys_that_it_is_for(self):
        for purpose in (instead, as_they_are):
            self.assertEqual(last(bind(0, [1], purpose(0, 255))), [1])
            for keys in ([256], [1, HUGE], [256, 1], [1, 2, 3, 4, 5, 256]):
                self.assertEqual(last(bind(0, [1], purpose(*keys))), [-1])

    def test_maps_to_put_or_exchange(self):
        for purpose in (put, exchange):
            for number in (0, 7):
                self.assertEqual(last(bind(0, [1], purpose(number))), [1])
            for number in (8, 256, HUGE):
                self.assertEqual(last(bind(0, [1], purpose(number))), [-1])

    def test_twenty_others(self):
        self.assertEqual(run(*FULL), [[how_many] for how_many in range(1, 21)])
        self.assertEqual(last(*FULL, bind(0, [1], command(5))), [-5])
        self.assertEqual(last(*FULL, bind(0, [100, 1], command(5))), [-5])
        self.assertEqual(last(*FULL, bind(1, [1], command(5))), [1])
        self.assertEqual(last(*FULL, unbind(0, [100]), bind(0, [1], command(5))), [20])

    def test_a_full_map_takes_a_sequence_that_it_has(self):
        for key in (100, 119):
            calls = [*FULL, bind(0, [key], command(999))]
            self.assertEqual(last(*calls), [20])
            self.assertEqual(events(*calls, press(key)), [(1, 999, 0, 1)])

    def test_of_several_refusals_the_one_told_first(self):
        self.assertEqual(last(bind(8, [], command(1000))), [-2])
        self.assertEqual(last(bind(8, [256], instead())), [-2])
        self.assertEqual(last(*FULL, bind(8, [1], command(5))), [-2])
        self.assertEqual(last(*FULL, bind(0, [], command(5))), [-1])
        self.assertEqual(last(*FULL, bind(0, [256], command(5))), [-1])
        self.assertEqual(last(*FULL, bind(0, [1], command(1000))), [-1])
        self.assertEqual(last(*FULL, bind(0, [1], put(8))), [-1])

    def test_a_refusal_leaves_all_as_it_was(self):
        calls = [bind(0, [1], command(5)), bind(0, [1], command(1000)), bind(0, [1], put(8)), bind(0, [1], instead())]
        self.assertEqual(run(*calls), [[1], [-1], [-1], [-1]])
        self.assertEqual(events(*calls, press(1)), [(1, 5, 0, 1)])
        self.assertEqual(last(*calls, bind(0, [2], command(1))), [2])
        calls = [*FULL, bind(0, [1], command(5))]
        self.assertEqual(events(*calls, press(1)), [(0, 1, 0, 1)])
        self.assertEqual(last(*calls, unbind(0, [100])), [19])


class UnbindTest(unittest.TestCase):
    def test_answers_how_many_are_left(self):
        calls = [bind(2, [1], command(5)), bind(2, [1, 2], command(6)), unbind(2, [1]), unbind(2, [1, 2])]
        self.assertEqual(run(*calls)[2:], [[1], [0]])

    def test_is_no_longer_bound(self):
        calls = [bind(0, [1], command(5)), bind(0, [1, 2], command(6)), unbind(0, [1])]
        self.assertEqual(events(*calls, press(1, 3)), [(0, 1, 0, 1), (0, 3, 0, 1)])
        self.assertEqual(events(*calls, press(1, 2)), [(1, 6, 0, 2)])

    def test_other_maps_keep_theirs(self):
        calls = [bind(0, [1], command(5)), bind(1, [1], command(6)), unbind(1, [1]), press(1)]
        self.assertEqual(events(*calls), [(1, 5, 0, 1)])

    def test_no_such_map(self):
        for number in (8, HUGE):
            for sequence in ([], [1], [256]):
                self.assertEqual(last(unbind(number, sequence)), [-2])

    def test_no_such_sequence(self):
        calls = [bind(0, [1, 2], command(5)), bind(1, [3], command(6))]
        for sequence in ([], [1], [2], [1, 2, 3], [2, 1], [3], [256], [HUGE] * 20, [1] * 20):
            self.assertEqual(last(*calls, unbind(0, sequence)), [-6])
        self.assertEqual(last(*calls, unbind(0, [1, 2]), unbind(0, [1, 2])), [-6])

    def test_a_refusal_leaves_all_as_it_was(self):
        calls = [bind(0, [1, 2], command(5)), unbind(0, [1]), unbind(8, [1, 2]), press(1, 2)]
        self.assertEqual(events(*calls), [(1, 5, 0, 2)])


class UseTest(unittest.TestCase):
    def test_answers_how_many(self):
        self.assertEqual(run(use(0), use(7, 0), use(1, 1, 1), use(5, 4, 3, 2, 1, 0)), [[1], [2], [3], [6]])

    def test_refusals(self):
        for numbers in ([], [0] * 7, [1] * 20, [8], [0, 8], [8, 0], [HUGE], [0, 1, 2, 3, 4, 8]):
            self.assertEqual(last(use(*numbers)), [-1])

    def test_a_refusal_leaves_all_as_it_was(self):
        calls = [bind(1, [1], command(5)), use(1), use(), use(0, 8), use(0, 0, 0, 0, 0, 0, 0), press(1)]
        self.assertEqual(events(*calls), [(1, 5, 0, 1)])

    def test_open_keys_and_digits_stay(self):
        calls = [bind(0, [1, 2], command(5)), bind(1, [1, 3], command(6)), press(52, 1), use(1), press(3)]
        self.assertEqual(events(*calls), [(1, 6, 4, 3)])


class WaitTest(unittest.TestCase):
    def test_answers_the_ticks(self):
        for ticks in (1, 2, 500, 1000):
            self.assertEqual(last(wait(ticks)), [ticks])

    def test_refusals(self):
        for ticks in (0, 1001, HUGE):
            self.assertEqual(last(wait(ticks)), [-1])

    def test_a_refusal_leaves_all_as_it_was(self):
        calls = [bind(0, [1, 2], command(5)), wait(7), wait(0), wait(1001), press(1)]
        self.assertEqual(events(*calls, press(2, ticks=6)), [(1, 5, 0, 2)])
        self.assertEqual(events(*calls, press(2, ticks=7)), [(0, 1, 0, 1), (0, 2, 0, 1)])

    def test_open_keys_stay(self):
        self.assertEqual(events(bind(0, [1, 2], command(5)), press(1), wait(1), FLUSH), [(0, 1, 0, 1)])


if __name__ == "__main__":
    unittest.main()
