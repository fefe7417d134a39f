"""Point 6: refused calls and the operations 3 and 7 to 14 leave the state as it was."""

import unittest

from tests.helper import (
    LARGEST, LARGEST_VALUE, SMALLEST_VALUE, add_type, allocate_all, allocation, are_truthful_payments, begun,
    create, describe, is_cyclically_monotonic, is_weakly_monotonic, misreport_loss, payment_bounds,
    pivot_payments, probe, profiles, run, set_allocation, use_affine_maximizer, use_agent_maximizer,
    use_welfare_maximizer, welfare)

COUNTS = [4, 2]
FIRST = begun([[[0, -1, 1], [1, 0, -1], [-1, 1, 0], [7, 7, 0]], [[0, 5, 0], [9, 0, 3]]])
MIXED = allocate_all([0, 2, 1, 2, 2, 2, 1, 2], COUNTS)

QUESTIONS = [
    is_cyclically_monotonic(), is_weakly_monotonic(), describe(),
    misreport_loss(0, 3, [1, 1]), misreport_loss(1, 1, [2, 0]), misreport_loss(0, 0, [2, 1]),
    are_truthful_payments(0, [1, 1], [0, 0, 0, 0]), are_truthful_payments(0, [2, 0], [1000, -1000, 3, 4]),
    are_truthful_payments(1, [1, 1], [9, 0]),
]
for each in profiles(COUNTS):
    QUESTIONS.extend([allocation(each), payment_bounds(0, each), payment_bounds(1, each), pivot_payments(each),
                      welfare(each)])

# Each error of each operation that a ready instance can answer.
REFUSED = [
    create(0, 2), create(4, 2), create(2, 1), create(2, 5), create(LARGEST, LARGEST),
    add_type(2, [0, 0, 0]), add_type(1, [0, 0]), add_type(1, [0, 0, 51]), add_type(1, [-51, 0, 0]),
    add_type(1, [LARGEST_VALUE, SMALLEST_VALUE, 0]), add_type(0, [0, 0, 0]),
    set_allocation(3, [0, 0]), set_allocation(1, [0]), set_allocation(1, [4, 0]), set_allocation(1, [0, 2]),
    allocation([0]), allocation([4, 0]), allocation([0, 0, 0]),
    use_affine_maximizer([0, 9, 9, 9]), use_affine_maximizer([0, 9, 9, 9, 0, 0]),
    use_affine_maximizer([0, 9, 9, 0, 100]),
    use_agent_maximizer(2), use_agent_maximizer(LARGEST),
    misreport_loss(2, 0, [0, 0]), misreport_loss(1, 2, [0, 0]), misreport_loss(1, 1, [0, 0, 0]),
    payment_bounds(2, [0, 0]), payment_bounds(0, [0]), payment_bounds(1, [0, 2]),
    are_truthful_payments(2, [0, 0], [0, 0]), are_truthful_payments(1, [0, 2], [0, 0]),
    are_truthful_payments(1, [0, 0], [0]), are_truthful_payments(1, [0, 0], [0, 1001]),
    pivot_payments([0]), pivot_payments([4, 0]),
    welfare([]), welfare([0, 2]),
]


class StateAfterwards(unittest.TestCase):
    def leaves(self, first, call):
        expected = run(first + probe(COUNTS, 3))[len(first):]
        given = run(first + [call] + probe(COUNTS, 3))
        self.assertEqual(given[len(first) + 1:], expected)
        return given[len(first)]

    def test_questions(self):
        for first in (FIRST, FIRST + MIXED, FIRST + [use_welfare_maximizer()]):
            for call in QUESTIONS:
                self.leaves(first, call)

    def test_refused_calls(self):
        for first in (FIRST, FIRST + MIXED, FIRST + [use_welfare_maximizer()]):
            for call in REFUSED:
                answer = self.leaves(first, call)
                self.assertEqual(len(answer), 1)
                self.assertLess(answer[0], 0)

    def test_bounds_that_are_refused_for_want_of_truthful_payments(self):
        for profile in ([0, 0], [2, 0], [3, 0]):
            self.assertEqual(self.leaves(FIRST + MIXED, payment_bounds(0, profile)), [-33])

    def test_questions_that_find_a_negative_cycle(self):
        self.assertEqual(self.leaves(FIRST + MIXED, is_cyclically_monotonic()), [0, 0, 0, 0, 0, 1, 2])
        self.assertEqual(self.leaves(FIRST + MIXED, is_weakly_monotonic()), [0, 1, 0, 0, 0, 1])

    def test_all_of_them_one_behind_another(self):
        first = FIRST + MIXED
        between = QUESTIONS + REFUSED + QUESTIONS
        given = run(first + between + probe(COUNTS, 3))
        self.assertEqual(given[len(first) + len(between):], run(first + probe(COUNTS, 3))[len(first):])
        answers = given[len(first):len(first) + len(between)]
        self.assertEqual(answers[:len(QUESTIONS)], answers[-len(QUESTIONS):])

    def test_refused_ahead_of_the_first_create(self):
        expected = run(FIRST + probe(COUNTS, 3))
        for call in QUESTIONS[:10] + REFUSED[5:]:
            self.assertEqual(run([call] + FIRST + probe(COUNTS, 3)), [[-11]] + expected)

    def test_describe_while_an_agent_has_no_type(self):
        rest = FIRST[4:] + probe(COUNTS, 3)
        self.assertEqual(run(FIRST[:4] + [describe()] + rest)[5:], run(FIRST[:4] + rest)[4:])


if __name__ == "__main__":
    unittest.main()
