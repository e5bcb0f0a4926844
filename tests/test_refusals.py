"""What stands ahead of the operations, and point 6 of the requirements."""

import unittest

from asking import (
    HIGHEST_INTEGER, LOWEST_INTEGER, NO_ALARM, NO_INSTANCE, NO_LIMITS, NO_SHOTS, NO_SUCH_SHOT, NO_WEIGHTS,
    OUT_OF_RANGE, TOO_MANY_SHOTS, add_shot, add_shot_if, alarms, ask, ask_last, clear_shots, create, describe,
    first_alarm, held, longest_runs, lower_sums, mean_weight, no_shots_behind, onset, set_limits, set_shots,
    set_target, set_weight, smallest_alarming_weight, upper_sums, worst_runs,
)

# Each call but create, with right parameters and with wrong ones.
ALL_BUT_CREATE = (
    add_shot(5), add_shot(10000), add_shot(LOWEST_INTEGER),
    set_shots([]), set_shots([1, 2]), set_shots([10000]), set_shots([1] * 25), set_shots([0] * 70),
    clear_shots(),
    set_weight(0, 5), set_weight(-1, 5), set_weight(0, 10000), set_weight(HIGHEST_INTEGER, LOWEST_INTEGER),
    set_target(5), set_target(-10000),
    set_limits(1, 1), set_limits(-1, 1), set_limits(1, 1000),
    upper_sums(), lower_sums(), first_alarm(), alarms(),
    onset(0), onset(-1), onset(LOWEST_INTEGER), onset(HIGHEST_INTEGER),
    worst_runs(0), worst_runs(-1), worst_runs(LOWEST_INTEGER), worst_runs(HIGHEST_INTEGER),
    add_shot_if(5), add_shot_if(10000), add_shot_if(LOWEST_INTEGER),
    smallest_alarming_weight(), longest_runs(), mean_weight(), describe(),
)

# Each call from 7 on, as it is answered by a chart of three shots.
QUERIES = (
    upper_sums(), lower_sums(), first_alarm(), alarms(), onset(1), worst_runs(2), add_shot_if(102),
    smallest_alarming_weight(), longest_runs(), mean_weight(), describe(),
)


class WithoutInstance(unittest.TestCase):
    def test_each_call_is_refused(self):
        for call in ALL_BUT_CREATE:
            with self.subTest(call=call):
                self.assertEqual(ask(call), [NO_INSTANCE])

    def test_all_of_them_in_one_request(self):
        self.assertEqual(ask(*ALL_BUT_CREATE), [NO_INSTANCE] * len(ALL_BUT_CREATE))

    def test_a_refused_create_makes_none(self):
        for refused in (create(10000, 2, 5), create(100, -1, 5), create(100, 2, 1000)):
            for call in ALL_BUT_CREATE:
                with self.subTest(refused=refused, call=call):
                    self.assertEqual(ask(refused, call), [OUT_OF_RANGE, NO_INSTANCE])

    def test_create_after_refusals(self):
        self.assertEqual(
            ask(*ALL_BUT_CREATE, create(100, 2, 5), add_shot(104))[-2:],
            [[0], [0, 2, 0]],
        )
        self.assertEqual(held([*ALL_BUT_CREATE, create(100, 2, 5)], 0), [[0], [0], [0], [0, 2, 5], [0, 100]])


class Unchanged(unittest.TestCase):
    def check(self, calls, shots, call, expected=None):
        with self.subTest(call=call, shots=shots):
            if expected is not None:
                self.assertEqual(ask(*calls, call)[-1], expected)
            self.assertEqual(held(calls + [call], shots), held(calls, shots))
            self.assertEqual(held(calls + [call, call], shots), held(calls, shots))
            self.assertEqual(ask_last(*calls, call, describe()), ask_last(*calls, describe()))

    def test_after_refusals(self):
        for shots in (0, 1, 3, 24):
            calls = [create(100, 2, 5), set_shots([90 + n for n in range(shots)])]
            for number in NO_WEIGHTS:
                self.check(calls, shots, create(number, 1, 1), OUT_OF_RANGE)
                self.check(calls, shots, add_shot(number), OUT_OF_RANGE)
                self.check(calls, shots, add_shot_if(number), OUT_OF_RANGE)
                self.check(calls, shots, set_target(number), OUT_OF_RANGE)
                self.check(calls, shots, set_shots([1, number]), OUT_OF_RANGE)
                self.check(calls, shots, set_shots([number, 1]), OUT_OF_RANGE)
                for i in range(shots):
                    self.check(calls, shots, set_weight(i, number), OUT_OF_RANGE)
            for number in NO_LIMITS:
                self.check(calls, shots, create(1, number, 1), OUT_OF_RANGE)
                self.check(calls, shots, create(1, 1, number), OUT_OF_RANGE)
                self.check(calls, shots, set_limits(number, 1), OUT_OF_RANGE)
                self.check(calls, shots, set_limits(1, number), OUT_OF_RANGE)
            for count in (25, 26, 69, 70):
                self.check(calls, shots, set_shots([1] * count), OUT_OF_RANGE)
            for i in no_shots_behind(shots):
                self.check(calls, shots, set_weight(i, 1), NO_SUCH_SHOT)
                self.check(calls, shots, onset(i), NO_SUCH_SHOT)
                self.check(calls, shots, worst_runs(i), NO_SUCH_SHOT)

    def test_after_a_25th_shot(self):
        calls = [create(100, 2, 5), set_shots([90 + n for n in range(24)])]
        self.check(calls, 24, add_shot(1), TOO_MANY_SHOTS)

    def test_after_no_alarm_and_no_shots(self):
        self.check([create(100, 2, 5)], 0, first_alarm(), NO_ALARM)
        self.check([create(100, 2, 5)], 0, mean_weight(), NO_SHOTS)
        self.check([create(100, 2, 5), set_shots([104, 103])], 2, first_alarm(), NO_ALARM)

    def test_after_queries(self):
        for shots in (0, 1, 3, 24):
            calls = [create(100, 2, 5), set_shots([90 + n for n in range(shots)])]
            for query in QUERIES:
                self.check(calls, shots, query)

    def test_queries_answer_the_same_again(self):
        calls = [create(100, 2, 5), set_shots([104, 90, 111])]
        answered = ask(*calls, *QUERIES, *QUERIES, *reversed(QUERIES))[2:]
        expected = [
            [3, 2, 0, 9], [3, 0, 8, 0], [1, 2], [2, 1, 2], [2, 1], [0, 9, 2, 0, 3], [1, 9, 0], [0, 99], [1, 1],
            [0, 305, 3], [3, 100, 2, 5, 104, 90, 111],
        ]
        self.assertEqual(answered, expected * 2 + expected[::-1])


if __name__ == "__main__":
    unittest.main()
