"""The list that is handed in, the list that is given back, and the document's examples."""

import unittest

from icebounds.field import answers
from tests.support import (
    CREATE, LIST_MEASUREMENTS, LOWER_BOUND, LOWER_BOUNDS, MEASURE, MOST_UNCERTAIN_CELL,
    NO_INSTANCE, OTHER_CALLS, UPPER_BOUNDS, flat, last, run,
)


class InterfaceTest(unittest.TestCase):

    def test_the_examples_of_the_document(self):
        self.assertEqual(
            run(
                (CREATE, 3, 1, 2),
                (MEASURE, 0, 10),
                (LOWER_BOUNDS,),
                (UPPER_BOUNDS,),
                (MEASURE, 2, 15),
                (MEASURE, 2, 13),
                (LOWER_BOUNDS,),
                (MOST_UNCERTAIN_CELL,),
            ),
            [[0], [1], [3, 10, 8, 6], [3, 10, 12, 14], [-33], [2], [3, 10, 11, 13], [1, 1]],
        )

    def test_the_flat_list_holds_the_count_of_each_answer_before_it(self):
        calls = [0, 3, 1, 2, 2, 0, 10, 7, 4, 5, 3, 11]
        expected = [1, 0, 1, 1, 4, 3, 10, 8, 6, 3, 1, 0, 10, 1, -2, 2, 2, 8]
        self.assertEqual(answers(calls), expected)

    def test_every_answer_is_a_list_of_plain_whole_numbers(self):
        answered = answers(flat([(CREATE, 2, 2, 3)] + OTHER_CALLS))
        self.assertIs(type(answered), list)
        for number in answered:
            self.assertIs(type(number), int)

    def test_the_list_handed_in_stays_and_a_second_call_answers_the_same(self):
        calls = flat([(CREATE, 3, 2, 4), (MEASURE, 1, 30)] + OTHER_CALLS + [(LIST_MEASUREMENTS,)])
        before = list(calls)
        first = answers(calls)
        kept = list(first)
        self.assertEqual(calls, before)
        self.assertEqual(answers(calls), kept)
        self.assertEqual(first, kept)
        self.assertEqual(calls, before)

    def test_nothing_is_kept_for_the_next_list(self):
        run((CREATE, 2, 2, 3), (MEASURE, 0, 10))
        self.assertEqual(run((LIST_MEASUREMENTS,)), [NO_INSTANCE])
        self.assertEqual(run((CREATE, 2, 2, 3), (LIST_MEASUREMENTS,)), [[0], [0]])

    def test_every_other_call_is_refused_before_create(self):
        for call in OTHER_CALLS:
            with self.subTest(call=call):
                self.assertEqual(run(call), [NO_INSTANCE])
        self.assertEqual(run(*OTHER_CALLS), [NO_INSTANCE] * len(OTHER_CALLS))

    def test_the_missing_instance_is_checked_before_any_other_error(self):
        for call in OTHER_CALLS:
            wrong = (call[0],) + (4294967295,) * (len(call) - 1)
            with self.subTest(call=wrong):
                self.assertEqual(run(wrong), [NO_INSTANCE])

    def test_a_refused_create_makes_no_instance(self):
        for call in OTHER_CALLS:
            with self.subTest(call=call):
                self.assertEqual(run((CREATE, 6, 1, 2), call), [[-22], NO_INSTANCE])

    def test_a_create_that_succeeds_after_calls_that_were_refused(self):
        self.assertEqual(run((MEASURE, 0, 5), (CREATE, 1, 1, 0), (LIST_MEASUREMENTS,)), [[-11], [0], [0]])

    def test_forty_calls(self):
        calls = [(CREATE, 5, 5, 20)] + [(LOWER_BOUND, 24)] * 38 + [(UPPER_BOUNDS,)]
        self.assertEqual(run(*calls), [[0]] * 39 + [[25] + [99] * 25])
        self.assertEqual(last((CREATE, 1, 1, 0)), [0])


if __name__ == "__main__":
    unittest.main()
