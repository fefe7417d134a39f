"""How calls and answers are laid out in one list, and that nothing is changed or kept."""

import unittest

from truthfulpay.bench import answers

from tests.helper import (
    add_type, allocation, are_truthful_payments, begun, create, describe, is_cyclically_monotonic,
    is_weakly_monotonic, joined, misreport_loss, payment_bounds, pivot_payments, run, set_allocation,
    use_affine_maximizer, use_agent_maximizer, use_welfare_maximizer, welfare)

# Each operation once at least, with a refusal of each code.
CALLS = [
    0, 4, 2,
    4,
    0, 2, 2,
    3, 2, 0, 0,
    1, 0, 2, 0, 10,
    1, 0, 2, 0, 4,
    1, 1, 2, 6, 0,
    1, 2, 2, 6, 0,
    1, 1, 0,
    4,
    3, 2, 0, 0,
    3, 0,
    7, 0, 1, 2, 0, 0,
    7, 0, 0, 2, 1, 0,
    2, 0, 2, 0, 0,
    5, 4, 1, 2, 3, 4,
    6, 0,
    6, 9,
    3, 2, 1, 0,
    14,
    8,
    9,
    10, 0, 2, 1, 0,
    11, 0, 2, 1, 0, 2, -7, -7,
    11, 0, 2, 1, 0, 2, -1001, 4,
    12, 2, 1, 0,
    13, 2, 1, 0,
    1, 1, 2, -6, 6,
    2, 1, 2, 1, 1,
    1, 1, 2, -6, -6,
    1, 1, 2, -6, -5,
    1, 1, 2, 0, 0,
    2, 1, 2, 1, 0,
    8,
    9,
    10, 0, 2, 0, 0,
    14,
]
ANSWERS = [
    1, -22,
    1, -11,
    1, 0,
    1, -16,
    1, 0,
    1, 1,
    1, 0,
    1, -2,
    1, -22,
    1, 0,
    1, 1,
    1, -22,
    2, 0, 10,
    2, 0, -4,
    1, 1,
    1, 0,
    1, 0,
    1, -2,
    1, 1,
    4, 2, 2, 2, 1,
    1, 1,
    1, 1,
    3, 0, 0, 0,
    1, 1,
    1, -22,
    3, 2, 6, 0,
    3, 1, 4, 6,
    1, 1,
    1, 0,
    1, 2,
    1, 3,
    1, -28,
    1, 0,
    6, 0, 0, 0, 0, 0, 1,
    6, 0, 0, 0, 0, 0, 1,
    1, -33,
    4, 2, 2, 2, 4,
]


class Layout(unittest.TestCase):
    def test_counts_and_answers_in_order(self):
        self.assertEqual(answers(list(CALLS)), ANSWERS)

    def test_one_call(self):
        self.assertEqual(answers([0, 1, 2]), [1, 0])
        self.assertEqual(answers([4]), [1, -11])
        self.assertEqual(answers([2, 0, 0]), [1, -11])

    def test_rows_do_not_run_into_the_next_call(self):
        # Numbers within the rows look like calls.
        calls = [add_type(0, [0, 1, 2, 3, 4, 5, 6, 7]), create(1, 2), add_type(0, [4, 4, 4]), add_type(0, [4, 4]),
                 set_allocation(1, [0, 4, 4]), allocation([4] * 12), use_affine_maximizer([4] * 12),
                 misreport_loss(0, 0, [4] * 8), payment_bounds(0, [4] * 8), pivot_payments([4] * 12),
                 welfare([4] * 12), are_truthful_payments(0, [14] * 15, [14]), are_truthful_payments(0, [0], [14] * 15),
                 are_truthful_payments(0, [], [14] * 16), are_truthful_payments(0, [14] * 16, []), allocation([0])]
        self.assertEqual(run(calls), [[-11], [0], [-22], [0]] + [[-22]] * 11 + [[0]])

    def test_answers_of_each_length(self):
        for agent_count in (1, 2, 3):
            calls = begun([[[0, 1], [1, 0]]] * agent_count)
            first = [0] * agent_count
            last = first[1:] + [1]
            calls.append(set_allocation(1, last))
            given = run(calls + [describe(), pivot_payments(first), welfare(first), is_cyclically_monotonic(),
                                 is_weakly_monotonic(), payment_bounds(0, first)])[len(calls):]
            violation = [0, agent_count - 1] + first + [0, 1]
            self.assertEqual(given[0], [agent_count, 2] + [2] * agent_count)
            self.assertEqual(given[1], [agent_count] + [agent_count - 1] * agent_count)
            self.assertEqual(given[2:5], [[0, 0, agent_count], violation, violation])
            self.assertEqual(given[5], [-33] if agent_count == 1 else [0, 0, 0])

    def test_gives_back_a_list_of_plain_whole_numbers(self):
        given = answers(list(CALLS))
        self.assertIs(type(given), list)
        self.assertEqual({type(number) for number in given}, {int})

    def test_what_is_handed_in_is_not_changed(self):
        handed_in = list(CALLS)
        answers(handed_in)
        self.assertEqual(handed_in, CALLS)

    def test_what_is_given_back_is_a_list_of_its_own(self):
        handed_in = list(CALLS)
        first = answers(handed_in)
        first.clear()
        self.assertEqual(handed_in, CALLS)
        self.assertEqual(answers(handed_in), ANSWERS)

    def test_runs_one_behind_another_answer_the_same(self):
        self.assertEqual(answers(list(CALLS)), ANSWERS)
        self.assertEqual(answers(list(CALLS)), ANSWERS)

    def test_nothing_is_kept_from_one_time_to_the_next(self):
        answers(joined([create(1, 2), add_type(0, [1, 2]), use_welfare_maximizer()]))
        self.assertEqual(run([allocation([0])]), [[-11]])
        self.assertEqual(run([add_type(0, [1, 2])]), [[-11]])
        self.assertEqual(run([create(1, 2), allocation([0])]), [[0], [-16]])
        self.assertEqual(run([create(1, 2), add_type(0, [1, 2]), allocation([0])]), [[0], [0], [0]])


class FourHundredCalls(unittest.TestCase):
    def test_all_refused(self):
        self.assertEqual(run([use_welfare_maximizer()] * 400), [[-11]] * 400)

    def test_all_create(self):
        self.assertEqual(run([create(3, 4)] * 400), [[0]] * 400)

    def test_all_describe(self):
        self.assertEqual(run([create(3, 4)] + [describe()] * 399), [[0]] + [[3, 4, 0, 0, 0]] * 399)

    def test_each_sets_what_the_next_answers(self):
        calls = [create(2, 3), add_type(0, [0, 1, 2]), add_type(1, [2, 1, 0])]
        calls.extend([set_allocation(number % 3, [0, 0]) for number in range(397)])
        expected = [[0], [0], [0], [0]] + [[number % 3] for number in range(396)]
        self.assertEqual(run(calls), expected)

    def test_on_the_largest_instance(self):
        calls = [create(3, 4)]
        for agent in range(3):
            calls.extend([add_type(agent, [kind, -kind, 2 * kind - 3, 1]) for kind in range(4)])
        while len(calls) < 400:
            calls.extend([use_welfare_maximizer(), use_affine_maximizer([9, 8, 7, 6, 5, 4, 3]),
                          use_agent_maximizer(2), misreport_loss(2, 0, [3, 3, 3]), allocation([0, 1, 0])])
        calls = calls[:400]
        given = run(calls)
        self.assertEqual(len(given), 400)
        self.assertEqual(given[13:18], [[0], [0], [0], [0, 2], [3]])
        self.assertEqual(given[18:], (given[13:18] * 80)[:382])

    def test_questions_of_the_largest_instance(self):
        values = [[0, -1, -5, 1], [1, 0, -1, -5], [-5, 1, 0, -1], [-1, -5, 1, 0]]
        calls = begun([[[0] * 4] * 4, [[0] * 4] * 4, values])
        calls.extend([set_allocation(kind, [3, 3, kind]) for kind in range(4)])
        start = len(calls)
        while len(calls) < 400:
            calls.extend([is_cyclically_monotonic(), is_weakly_monotonic(), payment_bounds(2, [3, 3, 1]),
                          payment_bounds(1, [3, 3, 3]), are_truthful_payments(2, [3, 3, 0], [0, -1, -2, -3]),
                          pivot_payments([3, 3, 3]), welfare([3, 3, 3]), describe()])
        given = run(calls[:400])
        expected = [[0, 2, 3, 3, 0, 0, 1, 2, 3], [1], [-33], [0, 0, 0], [0], [3, 1, 1, 0], [3, 0, 1], [3, 4, 4, 4, 4]]
        self.assertEqual(given[start:], (expected * 50)[:400 - start])

    def test_longest_lists(self):
        calls = [use_affine_maximizer([1] * 12), allocation([0] * 12)] * 199 + [create(1, 2), add_type(0, [0] * 8)]
        self.assertEqual(run(calls), [[-11]] * 398 + [[0], [-22]])


if __name__ == "__main__":
    unittest.main()
