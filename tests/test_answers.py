"""The form of what is handed in and given back, and the document's examples."""

import unittest

from asking import (
    NO_INSTANCE, NO_SUCH_SHOT, add_shot, add_shot_if, alarms, ask, clear_shots, create, describe, first_alarm,
    longest_runs, lower_sums, mean_weight, onset, set_limits, set_shots, set_target, set_weight,
    smallest_alarming_weight, upper_sums, worst_runs,
)
from shotsums.chart import answers

# The document's examples, in their order.
EXAMPLES = (
    (create(100, 2, 5), [0]),
    (add_shot(104), [0, 2, 0]),
    (add_shot(103), [0, 3, 0]),
    (add_shot(107), [1, 8, 0]),
    (upper_sums(), [3, 2, 3, 8]),
    (first_alarm(), [2, 1]),
    (onset(2), [0, 3]),
    (worst_runs(2), [0, 8, 0, 0, 3]),
    (smallest_alarming_weight(), [0, 100]),
    (longest_runs(), [3, 0]),
    (mean_weight(), [0, 314, 3]),
    (add_shot_if(90), [2, 0, 8]),
    (onset(5), NO_SUCH_SHOT),
)
EXAMPLE = sum([call for call, expected in EXAMPLES], [])

QUERIES = (
    upper_sums(), lower_sums(), first_alarm(), alarms(), onset(0), worst_runs(0), add_shot_if(1),
    smallest_alarming_weight(), longest_runs(), mean_weight(), describe(),
)


class Form(unittest.TestCase):
    def test_count_ahead_of_each_answer(self):
        requests = (
            ([0, 100, 2, 5], [1, 0]),
            ([0, 100, 2, 5, 1, 104], [1, 0, 3, 0, 2, 0]),
            ([0, 100, 2, 5, 2, 0], [1, 0, 1, 0]),
            ([0, 100, 2, 5, 2, 2, 104, 103], [1, 0, 1, 2]),
            ([0, 100, 2, 5, 3], [1, 0, 1, 0]),
            ([0, 100, 2, 5, 1, 104, 4, 0, 7], [1, 0, 3, 0, 2, 0, 2, 0, 104]),
            ([0, 100, 2, 5, 5, 7], [1, 0, 2, 0, 100]),
            ([0, 100, 2, 5, 6, 7, 8], [1, 0, 3, 0, 2, 5]),
            ([0, 100, 2, 5, 7], [1, 0, 1, 0]),
            ([0, 100, 2, 5, 8], [1, 0, 1, 0]),
            ([0, 100, 2, 5, 2, 2, 104, 90, 7], [1, 0, 1, 2, 3, 2, 2, 0]),
            ([0, 100, 2, 5, 2, 2, 104, 90, 8], [1, 0, 1, 2, 3, 2, 0, 8]),
            ([0, 100, 2, 5, 2, 2, 104, 90, 9], [1, 0, 1, 2, 2, 1, 2]),
            ([0, 100, 2, 5, 10], [1, 0, 1, 0]),
            ([0, 100, 2, 5, 2, 2, 104, 90, 10], [1, 0, 1, 2, 2, 1, 1]),
            ([0, 100, 2, 5, 2, 2, 104, 90, 11, 1], [1, 0, 1, 2, 2, 2, 1]),
            ([0, 100, 2, 5, 2, 2, 104, 90, 12, 1], [1, 0, 1, 2, 5, 0, 0, 2, 8, 1]),
            ([0, 100, 2, 5, 13, 104], [1, 0, 3, 0, 2, 0]),
            ([0, 100, 2, 5, 14], [1, 0, 2, 0, 108]),
            ([0, 100, 2, 5, 15], [1, 0, 2, 0, 0]),
            ([0, 100, 2, 5, 2, 2, 104, 90, 16], [1, 0, 1, 2, 3, 0, 97, 1]),
            ([0, 100, 2, 5, 17], [1, 0, 4, 0, 100, 2, 5]),
            ([0, 100, 2, 5, 2, 2, 104, 90, 17], [1, 0, 1, 2, 6, 2, 100, 2, 5, 104, 90]),
        )
        for handed_in, expected in requests:
            with self.subTest(handed_in=handed_in):
                self.assertEqual(answers(handed_in), expected)

    def test_a_refusal_is_its_code_alone(self):
        self.assertEqual(answers([7]), [1, -11])
        self.assertEqual(answers([0, 10000, 2, 5]), [1, -22])
        self.assertEqual(answers([0, 1, 2, 5, 4, 0, 1]), [1, 0, 1, -2])
        self.assertEqual(answers([0, 1, 2, 5, 1, 10000]), [1, 0, 1, -22])
        self.assertEqual(answers([0, 1, 2, 5, 2, 24] + [1] * 24 + [1, 1]), [1, 0, 1, 24, 1, -28])
        self.assertEqual(answers([0, 1, 2, 5, 9]), [1, 0, 1, -33])
        self.assertEqual(answers([0, 1, 2, 5, 11, 0]), [1, 0, 1, -2])
        self.assertEqual(answers([0, 1, 2, 5, 12, 0]), [1, 0, 1, -2])
        self.assertEqual(answers([0, 1, 2, 5, 13, 10000]), [1, 0, 1, -22])
        self.assertEqual(answers([0, 1, 2, 5, 16]), [1, 0, 1, -6])

    def test_only_a_refusal_begins_below_zero(self):
        calls = [create(-9999, 0, 0), set_shots([-9998, -9999, -9997]), *QUERIES, set_weight(0, -5), set_target(-7)]
        calls += [add_shot(-9999), set_limits(1, 1), clear_shots()]
        for call, answer in zip(calls, ask(*calls)):
            with self.subTest(call=call):
                self.assertGreaterEqual(answer[0], 0)

    def test_kinds(self):
        calls = create(1, 2, 3) + add_shot(9) + set_shots([-8, 9]) + set_weight(0, 1) + set_target(2)
        calls += set_limits(1, 1) + sum(QUERIES, []) + clear_shots() + sum(QUERIES, []) + set_target(10000)
        given = answers(calls)
        self.assertIs(type(given), list)
        self.assertEqual({type(number) for number in given}, {int})

    def test_examples_of_the_document(self):
        self.assertEqual(ask(*[call for call, expected in EXAMPLES]), [expected for call, expected in EXAMPLES])

    def test_60_calls(self):
        added = [add_shot(n) for n in range(24)]
        calls = [create(0, 0, 999), *added, upper_sums(), clear_shots(), *added, upper_sums()]
        calls += [lower_sums()] * (60 - len(calls))
        answered = ask(*calls)
        sums = [n * (n + 1) // 2 for n in range(24)]
        self.assertEqual(len(answered), 60)
        self.assertEqual(answered[1:25], [[0, reached, 0] for reached in sums])
        self.assertEqual(answered[25:27], [[24] + sums, [24]])
        self.assertEqual(answered[27:51], answered[1:25])
        self.assertEqual(answered[51], [24] + sums)
        self.assertEqual(answered[52:], [[24] + [0] * 24] * 8)

    def test_longest_list(self):
        calls = [set_shots([0] * 70)] * 60
        self.assertEqual(len(sum(calls, [])), 4320)
        self.assertEqual(ask(*calls), [NO_INSTANCE] * 60)

    def test_60_creates(self):
        self.assertEqual(ask(*[create(1, 2, 3)] * 60), [[0]] * 60)


class NothingKept(unittest.TestCase):
    def test_list_handed_in_stays_as_it_was(self):
        calls = create(1, 2, 3) + set_shots([4, 5, 6]) + add_shot(7) + set_weight(0, 9) + set_shots([1] * 70)
        calls += clear_shots() + set_target(8) + set_limits(7, 6) + sum(QUERIES, []) + add_shot(3) + sum(QUERIES, [])
        before = list(calls)
        given = answers(calls)
        self.assertEqual(calls, before)
        self.assertIsNot(given, calls)

    def test_set_shots_holds_weights_of_its_own(self):
        calls = create(0, 0, 0) + set_shots([4, 5]) + set_weight(0, 9) + set_weight(0, 1)
        before = list(calls)
        self.assertEqual(answers(calls), [1, 0, 1, 2, 2, 0, 4, 2, 0, 9])
        self.assertEqual(calls, before)

    def test_second_time_is_as_the_first(self):
        first = answers(EXAMPLE)
        self.assertEqual(answers(EXAMPLE), first)
        first.append(0)
        self.assertEqual(answers(EXAMPLE), first[:-1])

    def test_no_instance_at_the_second_time(self):
        answers(EXAMPLE)
        changes = (add_shot(1), set_shots([1]), clear_shots(), set_weight(0, 1), set_target(1), set_limits(1, 1))
        for call in changes + QUERIES:
            with self.subTest(call=call):
                self.assertEqual(ask(call), [NO_INSTANCE])

    def test_no_shots_at_the_second_time(self):
        answers(EXAMPLE)
        self.assertEqual(
            ask(create(100, 2, 5), upper_sums(), describe(), clear_shots()),
            [[0], [0], [0, 100, 2, 5], [0]],
        )


if __name__ == "__main__":
    unittest.main()
