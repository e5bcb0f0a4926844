"""Calls 1 to 4: add_shot, set_shots, clear_shots, set_weight."""

import unittest

from asking import (
    HIGHEST_INTEGER, LOWEST_INTEGER, NO_SUCH_SHOT, NO_WEIGHTS, OUT_OF_RANGE, TOO_MANY_SHOTS,
    add_shot, ask, ask_last, clear_shots, create, held, lower_sums, set_shots, set_weight, upper_sums,
)

PLAIN = create(0, 0, 0)
FULL = list(range(101, 125))


class AddShot(unittest.TestCase):
    def test_answers_alarm_and_both_sums(self):
        self.assertEqual(
            ask(create(100, 2, 5), add_shot(104), add_shot(103), add_shot(107), add_shot(90)),
            [[0], [0, 2, 0], [0, 3, 0], [1, 8, 0], [2, 0, 8]],
        )

    def test_sums_start_at_zero(self):
        self.assertEqual(ask_last(create(100, 2, 5), add_shot(100)), [0, 0, 0])

    def test_upper_alarm_is_above_the_threshold_only(self):
        self.assertEqual(ask_last(create(100, 2, 5), add_shot(107)), [0, 5, 0])
        self.assertEqual(ask_last(create(100, 2, 5), add_shot(108)), [1, 6, 0])

    def test_lower_alarm_is_above_the_threshold_only(self):
        self.assertEqual(ask_last(create(100, 2, 5), add_shot(93)), [0, 0, 5])
        self.assertEqual(ask_last(create(100, 2, 5), add_shot(92)), [2, 0, 6])

    def test_both_alarms_at_one_shot(self):
        self.assertEqual(ask_last(create(0, 0, 5), add_shot(100), add_shot(-10)), [3, 90, 10])
        self.assertEqual(ask_last(create(0, 0, 5), add_shot(-100), add_shot(10)), [3, 10, 90])

    def test_threshold_zero(self):
        self.assertEqual(ask_last(PLAIN, add_shot(0)), [0, 0, 0])
        self.assertEqual(ask_last(PLAIN, add_shot(1)), [1, 1, 0])
        self.assertEqual(ask_last(PLAIN, add_shot(-1)), [2, 0, 1])

    def test_highest_allowance_and_threshold(self):
        self.assertEqual(ask_last(create(0, 999, 999), add_shot(1998)), [0, 999, 0])
        self.assertEqual(ask_last(create(0, 999, 999), add_shot(1999)), [1, 1000, 0])
        self.assertEqual(ask_last(create(0, 999, 999), add_shot(-1999)), [2, 0, 1000])

    def test_negative_target(self):
        self.assertEqual(ask_last(create(-50, 3, 4), add_shot(-40)), [1, 7, 0])
        self.assertEqual(ask_last(create(-50, 3, 4), add_shot(-60)), [2, 0, 7])

    def test_outermost_weights(self):
        self.assertEqual(ask_last(create(-9999, 0, 999), add_shot(9999)), [1, 19998, 0])
        self.assertEqual(ask_last(create(9999, 0, 999), add_shot(-9999)), [2, 0, 19998])

    def test_weight_out_of_range(self):
        for weight in NO_WEIGHTS:
            with self.subTest(weight=weight):
                self.assertEqual(ask_last(PLAIN, add_shot(weight)), OUT_OF_RANGE)

    def test_goes_behind_the_shots_that_are_set(self):
        calls = [create(0, 0, 999), set_shots([5, 6]), add_shot(7)]
        self.assertEqual(ask_last(*calls), [0, 18, 0])
        self.assertEqual(held(calls, 3)[2:6], [[0, 5], [0, 6], [0, 7], [3]])

    def test_24_shots_and_no_25th(self):
        answered = ask(create(0, 0, 999), *[add_shot(1)] * 25, upper_sums())
        self.assertEqual(answered[1:25], [[0, n, 0] for n in range(1, 25)])
        self.assertEqual(answered[25], TOO_MANY_SHOTS)
        self.assertEqual(answered[26], [24] + list(range(1, 25)))

    def test_no_25th_shot_behind_24_that_are_set(self):
        self.assertEqual(ask_last(PLAIN, set_shots(FULL), add_shot(1)), TOO_MANY_SHOTS)
        self.assertEqual(ask_last(PLAIN, set_shots(FULL[:23]), add_shot(1)), [1, sum(FULL[:23]) + 1, 0])

    def test_range_is_checked_ahead_of_the_number_of_shots(self):
        for weight in NO_WEIGHTS:
            with self.subTest(weight=weight):
                self.assertEqual(ask_last(PLAIN, set_shots(FULL), add_shot(weight)), OUT_OF_RANGE)

    def test_room_again_after_clear(self):
        self.assertEqual(
            ask(PLAIN, set_shots(FULL), add_shot(1), clear_shots(), add_shot(1))[2:],
            [TOO_MANY_SHOTS, [24], [1, 1, 0]],
        )


class SetShots(unittest.TestCase):
    def test_answers_the_number_of_shots(self):
        for count in range(25):
            with self.subTest(count=count):
                calls = [PLAIN, set_shots(FULL[:count])]
                self.assertEqual(ask_last(*calls), [count])
                self.assertEqual(held(calls, count)[2:-2], [[0, x] for x in FULL[:count]] + [[count]])

    def test_replaces_what_was_there(self):
        calls = [PLAIN, add_shot(9), set_shots([1, 2, 3]), set_shots([-4, 5])]
        self.assertEqual(ask_last(*calls), [2])
        self.assertEqual(held(calls, 2)[2:5], [[0, -4], [0, 5], [2]])

    def test_empty_list_removes_all(self):
        self.assertEqual(
            ask(PLAIN, set_shots([1, 2, 3]), set_shots([]), upper_sums(), lower_sums(), clear_shots())[2:],
            [[0], [0], [0], [0]],
        )

    def test_more_than_24(self):
        for count in range(25, 71):
            with self.subTest(count=count):
                self.assertEqual(
                    ask(PLAIN, set_shots([7]), set_shots([1] * count), upper_sums())[2:],
                    [OUT_OF_RANGE, [1, 7]],
                )

    def test_more_than_24_that_look_like_calls(self):
        for look in (create(1, 1, 1), clear_shots(), add_shot(0)):
            weights = (look * 70)[:70]
            with self.subTest(look=look):
                self.assertEqual(
                    ask(PLAIN, set_shots([7]), set_shots(weights), upper_sums(), set_shots(weights[:24]))[2:],
                    [OUT_OF_RANGE, [1, 7], [24]],
                )

    def test_outermost_weights(self):
        calls = [PLAIN, set_shots([-9999, 9999])]
        self.assertEqual(ask_last(*calls), [2])
        self.assertEqual(held(calls, 2)[2:5], [[0, -9999], [0, 9999], [2]])

    def test_an_element_out_of_range_at_any_place(self):
        for weight in NO_WEIGHTS:
            for count in (1, 2, 24):
                for place in range(count):
                    with self.subTest(weight=weight, count=count, place=place):
                        weights = [1] * count
                        weights[place] = weight
                        self.assertEqual(
                            ask(PLAIN, set_shots([7]), set_shots(weights), upper_sums())[2:],
                            [OUT_OF_RANGE, [1, 7]],
                        )

    def test_too_many_and_out_of_range(self):
        self.assertEqual(ask_last(PLAIN, set_shots([10000] * 70)), OUT_OF_RANGE)


class ClearShots(unittest.TestCase):
    def test_answers_how_many_there_were(self):
        for count in range(25):
            with self.subTest(count=count):
                self.assertEqual(
                    ask(PLAIN, set_shots(FULL[:count]), clear_shots(), upper_sums(), lower_sums(), clear_shots())[2:],
                    [[count], [0], [0], [0]],
                )

    def test_none_after_create(self):
        self.assertEqual(ask_last(PLAIN, clear_shots()), [0])

    def test_sums_begin_anew(self):
        self.assertEqual(ask_last(create(0, 0, 5), add_shot(4), clear_shots(), add_shot(3)), [0, 3, 0])

    def test_keeps_the_settings(self):
        calls = [create(12, 3, 4), add_shot(50), clear_shots()]
        self.assertEqual(held(calls, 0), [[0], [0], [0], [0, 3, 4], [0, 12]])


class SetWeight(unittest.TestCase):
    def test_answers_the_old_weight(self):
        calls = [PLAIN, set_shots([11, -12, 13])]
        self.assertEqual(
            ask(*calls, set_weight(0, 21), set_weight(1, 22), set_weight(2, 23))[2:],
            [[0, 11], [0, -12], [0, 13]],
        )
        self.assertEqual(ask(*calls, set_weight(1, 22), set_weight(1, 5))[2:], [[0, -12], [0, 22]])

    def test_changes_just_this_shot(self):
        for count in (1, 2, 24):
            for i in range(count):
                with self.subTest(count=count, i=i):
                    calls = [PLAIN, set_shots(FULL[:count]), set_weight(i, 77)]
                    changed = list(FULL[:count])
                    changed[i] = 77
                    self.assertEqual(held(calls, count)[2:-2], [[0, x] for x in changed] + [[count]])

    def test_all_sums_behind_it_are_reckoned_anew(self):
        self.assertEqual(
            ask(create(0, 1, 9), set_shots([3, 3, -5]), set_weight(0, -2), upper_sums(), lower_sums())[3:],
            [[3, 0, 2, 0], [3, 1, 0, 4]],
        )

    def test_outermost_weights(self):
        self.assertEqual(
            ask(PLAIN, add_shot(5), set_weight(0, 9999), set_weight(0, -9999), set_weight(0, 0))[2:],
            [[0, 5], [0, 9999], [0, -9999]],
        )

    def test_weight_out_of_range(self):
        for weight in NO_WEIGHTS:
            with self.subTest(weight=weight):
                self.assertEqual(ask_last(PLAIN, add_shot(5), set_weight(0, weight)), OUT_OF_RANGE)

    def test_shot_that_is_not_there(self):
        for count in (0, 1, 2, 24):
            for i in (-1, -count - 1, count, count + 1, LOWEST_INTEGER, HIGHEST_INTEGER):
                with self.subTest(count=count, i=i):
                    self.assertEqual(ask_last(PLAIN, set_shots(FULL[:count]), set_weight(i, 5)), NO_SUCH_SHOT)

    def test_first_and_last_shot(self):
        for count in (1, 2, 24):
            with self.subTest(count=count):
                calls = [PLAIN, set_shots(FULL[:count])]
                self.assertEqual(ask_last(*calls, set_weight(0, 5)), [0, FULL[0]])
                self.assertEqual(ask_last(*calls, set_weight(count - 1, 5)), [0, FULL[count - 1]])

    def test_shot_is_checked_ahead_of_the_weight(self):
        for i in (-1, 2, LOWEST_INTEGER, HIGHEST_INTEGER):
            for weight in NO_WEIGHTS:
                with self.subTest(i=i, weight=weight):
                    self.assertEqual(ask_last(PLAIN, set_shots([1, 2]), set_weight(i, weight)), NO_SUCH_SHOT)

    def test_lower_sums_follow(self):
        self.assertEqual(
            ask_last(PLAIN, set_shots([-1, -2]), set_weight(1, -7), lower_sums()),
            [2, 1, 8],
        )


if __name__ == "__main__":
    unittest.main()
