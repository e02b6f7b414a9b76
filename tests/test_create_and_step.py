"""create and set_max_step."""

import unittest

from tests.support import (
    CREATE, GREATEST_NUMBER, INCONSISTENT, LIST_MEASUREMENTS, LOWER_BOUND, LOWER_BOUNDS, MEASURE,
    NO_SUCH_CELL, OUT_OF_RANGE, REMOVE_MEASUREMENT, SET_MAX_STEP, STATE, UPPER_BOUNDS, last, run,
)


class CreateTest(unittest.TestCase):

    def test_every_size_that_the_document_allows(self):
        for columns in range(1, 6):
            for rows in range(1, 6):
                cells = columns * rows
                with self.subTest(columns=columns, rows=rows):
                    self.assertEqual(
                        run((CREATE, columns, rows, 20), (LOWER_BOUNDS,), (UPPER_BOUNDS,),
                            (LOWER_BOUND, cells - 1), (LOWER_BOUND, cells)),
                        [[0], [cells] + [0] * cells, [cells] + [99] * cells, [0], NO_SUCH_CELL],
                    )

    def test_every_step_that_the_document_allows(self):
        for step in range(0, 21):
            with self.subTest(step=step):
                self.assertEqual(run((CREATE, 1, 1, step), (SET_MAX_STEP, 0)), [[0], [step]])

    def test_sizes_and_steps_out_of_range(self):
        wrong = [
            (0, 1, 0), (1, 0, 0), (6, 1, 0), (1, 6, 0), (1, 1, 21), (0, 0, 0), (6, 6, 21),
            (GREATEST_NUMBER, 1, 0), (1, GREATEST_NUMBER, 0), (1, 1, GREATEST_NUMBER),
            (GREATEST_NUMBER, GREATEST_NUMBER, GREATEST_NUMBER),
        ]
        for parameters in wrong:
            with self.subTest(parameters=parameters):
                self.assertEqual(run((CREATE,) + parameters), [OUT_OF_RANGE])

    def test_a_second_create_starts_without_measurements(self):
        answered = run(
            (CREATE, 3, 1, 2), (MEASURE, 0, 10), (CREATE, 2, 2, 7), (LIST_MEASUREMENTS,),
            (LOWER_BOUNDS,), (UPPER_BOUNDS,), (REMOVE_MEASUREMENT, 0), (SET_MAX_STEP, 7),
        )
        self.assertEqual(
            answered,
            [[0], [1], [0], [0], [4, 0, 0, 0, 0], [4, 99, 99, 99, 99], NO_SUCH_CELL, [7]],
        )

    def test_a_refused_create_leaves_the_instance_as_it_was(self):
        made = [(CREATE, 3, 1, 2), (MEASURE, 0, 10), (MEASURE, 2, 13)]
        for wrong in [(0, 2, 5), (2, 6, 5), (2, 2, 21), (GREATEST_NUMBER, 2, 5)]:
            with self.subTest(wrong=wrong):
                answered = run(*made, (CREATE,) + wrong, *STATE)
                self.assertEqual(answered[3], OUT_OF_RANGE)
                self.assertEqual(answered[4:], run(*made, *STATE)[3:])


class SetMaxStepTest(unittest.TestCase):

    def test_it_answers_the_previous_step(self):
        self.assertEqual(
            run((CREATE, 2, 2, 7), (SET_MAX_STEP, 0), (SET_MAX_STEP, 20), (SET_MAX_STEP, 20),
                (SET_MAX_STEP, 3)),
            [[0], [7], [0], [20], [20]],
        )

    def test_the_bounds_are_those_of_the_new_step(self):
        self.assertEqual(
            run((CREATE, 3, 1, 2), (MEASURE, 0, 50), (SET_MAX_STEP, 5), (LOWER_BOUNDS,), (UPPER_BOUNDS,),
                (SET_MAX_STEP, 0), (LOWER_BOUNDS,), (UPPER_BOUNDS,)),
            [[0], [1], [2], [3, 50, 45, 40], [3, 50, 55, 60], [5], [3, 50, 50, 50], [3, 50, 50, 50]],
        )

    def test_the_new_step_holds_for_further_measurements(self):
        made = [(CREATE, 2, 1, 2), (MEASURE, 0, 50)]
        self.assertEqual(last(*made, (SET_MAX_STEP, 5), (MEASURE, 1, 55)), [2])
        self.assertEqual(last(*made, (SET_MAX_STEP, 1), (MEASURE, 1, 52)), INCONSISTENT)

    def test_a_step_out_of_range(self):
        for step in [21, 99, GREATEST_NUMBER]:
            with self.subTest(step=step):
                self.assertEqual(
                    run((CREATE, 2, 1, 4), (SET_MAX_STEP, step), (SET_MAX_STEP, 4)),
                    [[0], OUT_OF_RANGE, [4]],
                )

    def test_a_step_at_which_the_measurements_are_inconsistent(self):
        made = [(CREATE, 3, 2, 6), (MEASURE, 0, 10), (MEASURE, 5, 25)]
        self.assertEqual(last(*made, (SET_MAX_STEP, 5)), [6])
        self.assertEqual(last(*made, (SET_MAX_STEP, 4)), INCONSISTENT)
        self.assertEqual(last(*made, (SET_MAX_STEP, 0)), INCONSISTENT)

    def test_every_two_measurements_count(self):
        # The pair that is too far apart is in turn the first two, the outer two, the last two.
        for thicknesses in [(10, 14, 14), (10, 12, 15), (10, 10, 14)]:
            made = [(CREATE, 3, 1, 4)]
            made += [(MEASURE, cell, thickness) for cell, thickness in enumerate(thicknesses)]
            with self.subTest(thicknesses=thicknesses):
                self.assertEqual(last(*made, (SET_MAX_STEP, 2)), INCONSISTENT)

    def test_a_step_too_small_for_descending_measurements(self):
        made = [(CREATE, 2, 1, 4), (MEASURE, 0, 14), (MEASURE, 1, 10)]
        self.assertEqual(last(*made, (SET_MAX_STEP, 3)), INCONSISTENT)
        self.assertEqual(last(*made, (SET_MAX_STEP, 4)), [4])

    def test_the_range_is_checked_before_the_consistency(self):
        # No step above 20 leaves measurements inconsistent, so only the one refusal can be seen.
        self.assertEqual(
            last((CREATE, 2, 1, 20), (MEASURE, 0, 0), (MEASURE, 1, 20), (SET_MAX_STEP, 21)), OUT_OF_RANGE
        )

    def test_a_refused_step_leaves_the_instance_as_it_was(self):
        made = [(CREATE, 3, 1, 6), (MEASURE, 0, 10), (MEASURE, 2, 20)]
        for step, refused in [(4, INCONSISTENT), (21, OUT_OF_RANGE)]:
            with self.subTest(step=step):
                answered = run(*made, (SET_MAX_STEP, step), *STATE)
                self.assertEqual(answered[3], refused)
                self.assertEqual(answered[4:], run(*made, *STATE)[3:])

    def test_equal_measurements_allow_the_step_zero(self):
        self.assertEqual(
            last((CREATE, 5, 1, 9), (MEASURE, 0, 30), (MEASURE, 4, 30), (SET_MAX_STEP, 0)), [9]
        )


if __name__ == "__main__":
    unittest.main()
