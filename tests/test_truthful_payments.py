"""Operation 11, are_truthful_payments."""

import unittest

from tests.helper import (
    INVALID, LARGEST, LARGEST_VALUE, NO_SUCH_MEMBER, SMALLEST_VALUE, allocate_all, answer_after,
    are_truthful_payments, begun, begun_with_losses, run, set_allocation, use_affine_maximizer,
    use_welfare_maximizer)

# The row is the type, the place in it what the type reports.
LOSSES = [[0, 4, 9], [2, 0, 1], [10, 3, 0]]
READY = begun_with_losses(LOSSES)

# Agent 0 has two types, agent 1 three.
TWO_AGENTS = begun([[[0, 10], [0, 4]], [[6, 0], [0, 6], [3, 3]]]) + [use_welfare_maximizer()]

BAD_PAYMENTS = [
    [], [0], [0, 0, 0], [0, 0, 0, 0], [0] * 8, [1001, 0], [0, 1001], [-1001, 0], [0, -1001],
    [LARGEST_VALUE, 0], [0, LARGEST_VALUE], [SMALLEST_VALUE, 0], [0, SMALLEST_VALUE], [LARGEST_VALUE] * 14,
]
NO_PROFILES = [[], [0], [0, 0, 0], [0] * 14, [2, 0], [0, 3], [LARGEST, 0], [0, LARGEST]]


def answer_to(calls, payments):
    """Whether the payments of the only agent are truthful after the calls."""
    return answer_after(calls, are_truthful_payments(0, [0], payments))


class AreTruthfulPayments(unittest.TestCase):
    def test_equality_is_truthful_and_one_more_is_not(self):
        for kind in range(3):
            for reported in range(3):
                if kind != reported:
                    # All others pay what lies between, so that one condition alone can fail.
                    payments = [0, 0, 0]
                    calls = begun_with_losses([[0 if row == place else 30 for place in range(3)] for row in range(3)])
                    payments[kind], payments[reported] = 15, -15
                    self.assertEqual(answer_to(calls, payments), [1])
                    payments[kind] = 16
                    self.assertEqual(answer_to(calls, payments), [0])

    def test_each_condition_has_its_own_loss(self):
        asked, expected = [], []
        for second in range(-6, 5):
            for third in range(-11, 13):
                asked.append(are_truthful_payments(0, [0], [100, 100 + second, 100 + third]))
                truthful = (-second <= 4 and -third <= 9 and second <= 2 and second - third <= 1
                            and third <= 10 and third - second <= 3)
                expected.append([1 if truthful else 0])
        self.assertEqual(run(READY + asked)[len(READY):], expected)

    def test_two_types_at_every_difference(self):
        # Type 1 loses 3 by reporting 0, type 0 loses 8 by reporting 1.
        calls = begun_with_losses([[0, 8], [3, 0]])
        for start in (0, -500, 989):
            for difference in range(-12, 12):
                expected = [1 if -8 <= difference <= 3 else 0]
                self.assertEqual(answer_to(calls, [start, start + difference]), expected)

    def test_negative_losses(self):
        # Type 0 gains 3 by reporting 1, so type 1 must pay 3 more, but no more than 8.
        calls = begun_with_losses([[0, -3], [8, 0]])
        for difference in range(-1, 12):
            self.assertEqual(answer_to(calls, [7, 7 + difference]), [1 if 3 <= difference <= 8 else 0])

    def test_none_where_there_is_a_negative_cycle(self):
        for losses in ([[0, 5], [-6, 0]], [[0, -6], [5, 0]], [[0, -1], [-1, 0]]):
            calls = begun_with_losses(losses)
            given = run(calls + [are_truthful_payments(0, [0], [0, amount]) for amount in range(-12, 13)])[-25:]
            self.assertEqual(given, [[0]] * 25)

    def test_one_type(self):
        for alternative in (0, 1):
            calls = begun([[[-4, 9]]]) + [set_allocation(alternative, [0])]
            for amount in (0, 1, -1, 1000, -1000):
                self.assertEqual(answer_to(calls, [amount]), [1])

    def test_two_types_with_the_same_values(self):
        calls = begun([[[3, -8], [3, -8]]]) + [set_allocation(1, [1])]
        for amount in range(-13, 3):
            self.assertEqual(answer_to(calls, [0, amount]), [1 if amount == -11 else 0])

    def test_constant_allocation(self):
        calls = begun([[[0, 9], [-7, 50], [4, -4]]])
        self.assertEqual(answer_to(calls, [7, 7, 7]), [1])
        for payments in ([7, 7, 6], [7, 6, 7], [6, 7, 7]):
            self.assertEqual(answer_to(calls, payments), [0])

    def test_weights_of_0(self):
        calls = begun([[[0, 9], [9, 0]], [[5, 0], [0, 5]]]) + [use_affine_maximizer([0, 1, 0, 0])]
        self.assertEqual(answer_after(calls, are_truthful_payments(0, [0, 1], [3, 3])), [1])
        self.assertEqual(answer_after(calls, are_truthful_payments(0, [0, 1], [3, 4])), [0])
        self.assertEqual(answer_after(calls, are_truthful_payments(1, [0, 0], [0, 5])), [1])
        self.assertEqual(answer_after(calls, are_truthful_payments(1, [0, 0], [0, 6])), [0])

    def test_payments_at_the_limits(self):
        calls = begun([[[0, 0], [0, 0]]])
        for payments, expected in (([1000, 1000], 1), ([-1000, -1000], 1), ([1000, -1000], 0), ([-1000, 1000], 0),
                                   ([1000, 999], 0), ([-999, -1000], 0)):
            self.assertEqual(answer_to(calls, payments), [expected])

    def test_the_agents_own_report_makes_no_difference(self):
        for others in range(3):
            for payments in ([0, 0], [6, 0], [10, 0], [11, 0], [3, 0], [4, 0], [0, 3]):
                given = [answer_after(TWO_AGENTS, are_truthful_payments(0, [own, others], payments)) for own in (0, 1)]
                self.assertEqual(given[0], given[1])

    def test_what_the_others_report_counts(self):
        # Against [6, 0] type 0 is given 1 and type 1 is given 0; against [0, 6] both are given 1.
        for amount in range(-2, 14):
            given = answer_after(TWO_AGENTS, are_truthful_payments(0, [0, 0], [amount, 0]))
            self.assertEqual(given, [1 if 4 <= amount <= 10 else 0])
            given = answer_after(TWO_AGENTS, are_truthful_payments(0, [0, 1], [amount, 0]))
            self.assertEqual(given, [1 if amount == 0 else 0])

    def test_three_agents_with_four_types_each(self):
        none = [[0, 0, 0, 0]] * 4
        values = [[-loss for loss in row] for row in [[0, 7, 8, 9], [1, 0, 7, 7], [2, 7, 0, 7], [3, 1, 7, 0]]]
        calls = begun([none, values, none]) + [set_allocation(number, [3, number, 2]) for number in range(4)]
        truthful = [[0, 1, 2, 2], [-5, -4, -3, -3], [0, -7, -8, -9], [0, -7, -1, -6]]
        others = [[0, 1, 2, 3], [0, 1, 3, 2], [0, -7, -8, -10], [0, -8, -1, -7]]
        for payments in truthful + others:
            expected = 1 if payments in truthful else 0
            self.assertEqual(answer_after(calls, are_truthful_payments(1, [3, 2, 2], payments)), [expected])
            self.assertEqual(answer_after(calls, are_truthful_payments(1, [3, 0, 2], payments)), [expected])
        self.assertEqual(answer_after(calls, are_truthful_payments(1, [3, 0, 3], [0, 1, 2, 2])), [0])
        self.assertEqual(answer_after(calls, are_truthful_payments(0, [3, 0, 2], [9, 9, 9, 9])), [1])
        self.assertEqual(answer_after(calls, are_truthful_payments(2, [3, 0, 2], [9, 9, 9, 8])), [0])


class AreTruthfulPaymentsRefused(unittest.TestCase):
    def test_no_such_agent(self):
        for agent in (2, 3, 255, LARGEST):
            self.assertEqual(answer_after(TWO_AGENTS, are_truthful_payments(agent, [0, 0], [0, 0])), NO_SUCH_MEMBER)
        for agent_count in (1, 2, 3):
            calls = begun([[[0, 0]]] * agent_count)
            for agent in range(5):
                given = answer_after(calls, are_truthful_payments(agent, [0] * agent_count, [3]))
                self.assertEqual(given, [1] if agent < agent_count else NO_SUCH_MEMBER)

    def test_no_profile(self):
        for profile in NO_PROFILES:
            self.assertEqual(answer_after(TWO_AGENTS, are_truthful_payments(0, profile, [0, 0])), INVALID)
        for profile in NO_PROFILES[:3] + NO_PROFILES[4:]:
            self.assertEqual(answer_after(TWO_AGENTS, are_truthful_payments(1, profile, [0, 0, 0])), INVALID)

    def test_not_one_payment_for_each_type(self):
        for length in range(15):
            given = answer_after(TWO_AGENTS, are_truthful_payments(0, [0, 1], [0] * length))
            self.assertEqual(given, [1] if length == 2 else INVALID)
            given = answer_after(TWO_AGENTS, are_truthful_payments(1, [0, 1], [0] * length))
            self.assertEqual(given, [1] if length == 3 else INVALID)

    def test_payments_beyond_the_limits(self):
        for place in range(3):
            for amount in (1001, -1001, 4000, LARGEST_VALUE, SMALLEST_VALUE):
                payments = [0, 0, 0]
                payments[place] = amount
                self.assertEqual(answer_to(READY, payments), INVALID)
        self.assertEqual(answer_to(READY, [1001, 1001, 1001]), INVALID)

    def test_profile_and_payments_both_wrong(self):
        for profile in NO_PROFILES:
            for payments in BAD_PAYMENTS:
                if len(profile) + len(payments) <= 16:
                    self.assertEqual(answer_after(TWO_AGENTS, are_truthful_payments(0, profile, payments)), INVALID)

    def test_the_agent_is_checked_ahead_of_both_lists(self):
        for profile in NO_PROFILES + [[0, 0]]:
            for payments in BAD_PAYMENTS + [[0, 0]]:
                if len(profile) + len(payments) <= 16:
                    for agent in (2, LARGEST):
                        given = answer_after(TWO_AGENTS, are_truthful_payments(agent, profile, payments))
                        self.assertEqual(given, NO_SUCH_MEMBER)

    def test_refused_where_there_are_no_truthful_ones(self):
        calls = begun([[[0, 1], [1, 0]]]) + allocate_all([0, 1], [2])
        for payments in BAD_PAYMENTS:
            self.assertEqual(answer_to(calls, payments), INVALID)
        self.assertEqual(answer_to(calls, [0, 0]), [0])


if __name__ == "__main__":
    unittest.main()
