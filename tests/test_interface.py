"""The list that is handed in, the list that is given back, and the document's examples."""

import random
import unittest

from icebounds.field import answers
from tests.support import (
    CHECK_CELL, CREATE, IS_POSSIBLE, LIST_MEASUREMENTS, LOWER_BOUND, LOWER_BOUNDS,
    MAX_SAFE_THICKNESS, MEASURE, MOST_UNCERTAIN_CELL, NO_INSTANCE, OTHER_CALLS, REMOVE_MEASUREMENT,
    SAFE_CELLS, SAFE_ROUTE, SAFE_ROUTE_LENGTH, SET_MAX_STEP, SMALLEST_CONSISTENT_STEP, SUMMARY,
    TOTAL_UNCERTAINTY, TOTAL_UNCERTAINTY_WITH, UNCERTAINTY, UNCERTAIN_CELLS, UPPER_BOUND,
    UPPER_BOUNDS, WORST_TOTAL_UNCERTAINTY, cut, flat, last, run,
)

# The errors that the document names for each call.
ERRORS = {
    0: (-22,), 1: (-11, -22, -33), 2: (-11, -2, -22, -33), 3: (-11, -2), 4: (-11,), 5: (-11, -2),
    6: (-11, -2), 7: (-11,), 8: (-11,), 9: (-11, -2, -22), 10: (-11, -2), 11: (-11,),
    12: (-11, -2, -22), 13: (-11, -22), 14: (-11, -22), 15: (-11, -2, -22, -33),
    16: (-11, -2, -22, -33), 17: (-11, -2), 18: (-11, -2, -22, -33), 19: (-11, -2, -17),
    20: (-11,), 21: (-11,), 22: (-11,),
}

# The calls that may change the instance; without a refused one, all others may be left out.
CHANGING = (CREATE, SET_MAX_STEP, MEASURE, REMOVE_MEASUREMENT)


def any_call(choice):
    """Give any call with parameters mostly in their range, sometimes just or far outside."""
    cell = choice.choice([choice.randint(0, 9), choice.randint(0, 25), 4294967295])
    other = choice.choice([choice.randint(0, 9), choice.randint(0, 25)])
    thickness = choice.choice([choice.randint(40, 60), choice.randint(40, 60), 0, 99, 100, 4294967295])
    step = choice.choice([choice.randint(0, 20), 20, 21])
    return choice.choice([
        (CREATE, choice.randint(1, 6), choice.randint(2, 5), step), (SET_MAX_STEP, step),
        (MEASURE, cell, thickness), (MEASURE, other, thickness), (REMOVE_MEASUREMENT, cell),
        (LIST_MEASUREMENTS,), (LOWER_BOUND, cell), (UPPER_BOUND, cell), (LOWER_BOUNDS,),
        (UPPER_BOUNDS,), (IS_POSSIBLE, cell, thickness), (UNCERTAINTY, cell), (MOST_UNCERTAIN_CELL,),
        (CHECK_CELL, thickness, cell), (SAFE_CELLS, thickness), (UNCERTAIN_CELLS, thickness),
        (SAFE_ROUTE, thickness, cell, other), (SAFE_ROUTE, choice.randint(0, 30), other, cell),
        (SAFE_ROUTE_LENGTH, choice.randint(0, 30), other, cell), (MAX_SAFE_THICKNESS, other, cell),
        (TOTAL_UNCERTAINTY_WITH, cell, thickness), (WORST_TOTAL_UNCERTAINTY, cell),
        (SMALLEST_CONSISTENT_STEP,), (TOTAL_UNCERTAINTY,), (SUMMARY,),
    ])


class InterfaceTest(unittest.TestCase):

    def test_the_examples_of_the_document(self):
        self.assertEqual(
            run(
                (CREATE, 3, 1, 2),
                (MEASURE, 0, 10),
                (LOWER_BOUNDS,),
                (UPPER_BOUNDS,),
                (MEASURE, 2, 15),
                (MEASURE, 2, 13),
                (LOWER_BOUNDS,),
                (MOST_UNCERTAIN_CELL,),
                (SAFE_ROUTE, 11, 1, 2),
                (MAX_SAFE_THICKNESS, 0, 2),
                (SAFE_ROUTE, 11, 0, 2),
            ),
            [
                [0], [1], [3, 10, 8, 6], [3, 10, 12, 14], [-33], [2], [3, 10, 11, 13], [1, 1],
                [2, 1, 2], [10], [-33],
            ],
        )

    def test_the_examples_as_flat_lists(self):
        self.assertEqual(
            answers([
                0, 3, 1, 2, 2, 0, 10, 7, 8, 2, 2, 15, 2, 2, 13, 7, 11, 15, 11, 1, 2, 17, 0, 2,
                15, 11, 0, 2,
            ]),
            [
                1, 0, 1, 1, 4, 3, 10, 8, 6, 4, 3, 10, 12, 14, 1, -33, 1, 2, 4, 3, 10, 11, 13,
                2, 1, 1, 3, 2, 1, 2, 1, 10, 1, -33,
            ],
        )

    def test_each_call_by_its_number(self):
        made = [0, 3, 1, 5, 2, 1, 40]
        expected = [
            ([1, 6], [5]), ([2, 0, 41], [2]), ([3, 1], [0]), ([4], [1, 1, 40]), ([5, 0], [35]), ([6, 0], [45]),
            ([7], [3, 35, 40, 35]), ([8], [3, 45, 40, 45]), ([9, 0, 45], [1]), ([10, 2], [10]), ([11], [0, 10]),
            ([12, 36, 2], [2]), ([13, 36], [1, 1]), ([14, 36], [2, 0, 2]), ([15, 34, 0, 2], [3, 0, 1, 2]),
            ([16, 34, 0, 2], [2]), ([17, 0, 2], [35]), ([18, 0, 43], [10]), ([19, 2], [10]), ([20], [0]),
            ([21], [20]), ([22], [3, 1, 5, 1]), ([0, 1, 1, 1], [0]),
        ]
        for call, answer in expected:
            with self.subTest(call=call):
                # The call behind it shows that just its own numbers were taken.
                self.assertEqual(cut(answers(made + call + [0, 1, 1, 0])), [[0], [1], answer, [0]])

    def test_the_flat_list_holds_the_count_of_each_answer_before_it(self):
        calls = [0, 3, 1, 2, 2, 0, 10, 7, 4, 5, 3, 11]
        expected = [1, 0, 1, 1, 4, 3, 10, 8, 6, 3, 1, 0, 10, 1, -2, 2, 2, 8]
        self.assertEqual(answers(calls), expected)

    def test_every_answer_is_a_list_of_plain_whole_numbers(self):
        answered = answers(flat([(CREATE, 2, 2, 3)] + OTHER_CALLS))
        self.assertIs(type(answered), list)
        for number in answered:
            self.assertIs(type(number), int)

    def test_the_list_handed_in_stays_and_a_second_call_answers_the_same(self):
        calls = flat([(CREATE, 3, 2, 4), (MEASURE, 1, 30)] + OTHER_CALLS + [(LIST_MEASUREMENTS,)])
        before = list(calls)
        first = answers(calls)
        kept = list(first)
        self.assertEqual(calls, before)
        self.assertEqual(answers(calls), kept)
        self.assertEqual(first, kept)
        self.assertEqual(calls, before)

    def test_nothing_is_kept_for_the_next_list(self):
        run((CREATE, 2, 2, 3), (MEASURE, 0, 10))
        self.assertEqual(run((LIST_MEASUREMENTS,)), [NO_INSTANCE])
        self.assertEqual(run((CREATE, 2, 2, 3), (LIST_MEASUREMENTS,)), [[0], [0]])

    def test_every_other_call_is_refused_before_create(self):
        for call in OTHER_CALLS:
            with self.subTest(call=call):
                self.assertEqual(run(call), [NO_INSTANCE])
        self.assertEqual(run(*OTHER_CALLS), [NO_INSTANCE] * len(OTHER_CALLS))

    def test_the_missing_instance_is_checked_before_any_other_error(self):
        for call in OTHER_CALLS:
            wrong = (call[0],) + (4294967295,) * (len(call) - 1)
            with self.subTest(call=wrong):
                self.assertEqual(run(wrong), [NO_INSTANCE])

    def test_a_refused_create_makes_no_instance(self):
        for call in OTHER_CALLS:
            with self.subTest(call=call):
                self.assertEqual(run((CREATE, 6, 1, 2), call), [[-22], NO_INSTANCE])

    def test_a_create_that_succeeds_after_calls_that_were_refused(self):
        self.assertEqual(run((MEASURE, 0, 5), (CREATE, 1, 1, 0), (LIST_MEASUREMENTS,)), [[-11], [0], [0]])

    def test_lists_of_any_calls_in_any_order(self):
        choice = random.Random(6)
        for round_number in range(300):
            calls = [any_call(choice) for number in range(choice.randint(1, 40))]
            if round_number % 4 > 0:
                calls[0] = (CREATE, choice.randint(1, 5), choice.randint(1, 5), choice.randint(0, 20))
            handed_in = flat(calls)
            before = list(handed_in)
            first = answers(handed_in)
            with self.subTest(calls=calls):
                self.assertEqual(handed_in, before)
                self.assertEqual(answers(handed_in), first)
                self.check_that_refused_calls_count_for_nothing(calls, cut(first))

    def check_that_refused_calls_count_for_nothing(self, calls, answered):
        self.assertEqual(len(calls), len(answered))
        for call, answer in zip(calls, answered):
            if answer[0] < 0:
                self.assertEqual(len(answer), 1)
                self.assertIn(answer[0], ERRORS[call[0]])
            else:
                self.assertGreaterEqual(min(answer), 0)
        pairs = [(call, answer) for call, answer in zip(calls, answered) if answer[0] >= 0]
        self.assertEqual(run(*[call for call, answer in pairs]), [answer for call, answer in pairs])
        pairs = [(call, answer) for call, answer in pairs if call[0] in CHANGING]
        self.assertEqual(run(*[call for call, answer in pairs]), [answer for call, answer in pairs])

    def test_forty_calls(self):
        calls = [(CREATE, 5, 5, 20)] + [(LOWER_BOUND, 24)] * 38 + [(UPPER_BOUNDS,)]
        self.assertEqual(run(*calls), [[0]] * 39 + [[25] + [99] * 25])
        self.assertEqual(last((CREATE, 1, 1, 0)), [0])


if __name__ == "__main__":
    unittest.main()
