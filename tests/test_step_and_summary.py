"""smallest_consistent_step and summary."""

import random
import unittest

from tests.support import (
    CREATE, INCONSISTENT, LIST_MEASUREMENTS, MEASURE, NO_SUCH_CELL, OUT_OF_RANGE, REMOVE_MEASUREMENT,
    SET_MAX_STEP, SMALLEST_CONSISTENT_STEP, STATE, SUMMARY, last, run,
)


class SmallestConsistentStepTest(unittest.TestCase):

    def test_without_measurements_it_is_0(self):
        self.assertEqual(last((CREATE, 5, 5, 20), (SMALLEST_CONSISTENT_STEP,)), [0])
        self.assertEqual(
            last((CREATE, 2, 1, 20), (MEASURE, 0, 0), (MEASURE, 1, 20), (REMOVE_MEASUREMENT, 0),
                 (REMOVE_MEASUREMENT, 1), (SMALLEST_CONSISTENT_STEP,)),
            [0],
        )

    def test_with_one_measurement_it_is_0(self):
        self.assertEqual(last((CREATE, 5, 5, 20), (MEASURE, 12, 99), (SMALLEST_CONSISTENT_STEP,)), [0])

    def test_with_equal_measurements_it_is_0(self):
        made = [(CREATE, 5, 1, 20), (MEASURE, 0, 30), (MEASURE, 1, 30), (MEASURE, 4, 30)]
        self.assertEqual(last(*made, (SMALLEST_CONSISTENT_STEP,)), [0])

    def test_it_is_rounded_up(self):
        for thickness, step in [(10, 0), (11, 1), (13, 1), (14, 2), (16, 2), (17, 3), (9, 1), (7, 1), (6, 2)]:
            made = [(CREATE, 3, 2, 20), (MEASURE, 0, 10), (MEASURE, 5, thickness)]
            with self.subTest(thickness=thickness):
                self.assertEqual(last(*made, (SMALLEST_CONSISTENT_STEP,)), [step])

    def test_it_may_be_just_the_greatest_step(self):
        for step in [0, 1, 7, 19, 20]:
            made = [(CREATE, 2, 1, step), (MEASURE, 0, 10), (MEASURE, 1, 10 + step)]
            with self.subTest(step=step):
                self.assertEqual(last(*made, (SMALLEST_CONSISTENT_STEP,)), [step])

    def test_every_two_measurements_count(self):
        for thicknesses in [(10, 14, 14), (10, 12, 18), (10, 10, 14), (14, 10, 10)]:
            made = [(CREATE, 3, 1, 9)]
            made += [(MEASURE, cell, thickness) for cell, thickness in enumerate(thicknesses)]
            steps = [abs(thicknesses[0] - thicknesses[1]), abs(thicknesses[1] - thicknesses[2])]
            with self.subTest(thicknesses=thicknesses):
                self.assertEqual(last(*made, (SMALLEST_CONSISTENT_STEP,)), [max(steps)])

    def test_set_max_step_takes_it_and_refuses_one_less(self):
        choice = random.Random(5)
        for round_number in range(40):
            columns, rows, max_step = choice.randint(1, 5), choice.randint(1, 5), choice.randint(0, 20)
            made = [(CREATE, columns, rows, max_step)]
            for number in range(choice.randint(0, 8)):
                made.append((MEASURE, choice.randrange(columns * rows), choice.randint(30, 60)))
            step = last(*made, (SMALLEST_CONSISTENT_STEP,))[0]
            with self.subTest(made=made):
                self.assertEqual(last(*made, (SET_MAX_STEP, step)), [max_step])
                if step > 0:
                    self.assertEqual(last(*made, (SET_MAX_STEP, step - 1)), INCONSISTENT)

    def test_nothing_is_changed_by_it(self):
        made = [(CREATE, 3, 2, 9), (MEASURE, 5, 20), (MEASURE, 0, 10)]
        self.assertEqual(run(*made, (SMALLEST_CONSISTENT_STEP,), *STATE)[4:], run(*made, *STATE)[3:])


class SummaryTest(unittest.TestCase):

    def test_after_create_and_after_a_second_create(self):
        self.assertEqual(
            run((CREATE, 5, 1, 20), (SUMMARY,), (MEASURE, 4, 50), (CREATE, 2, 3, 0), (SUMMARY,)),
            [[0], [5, 1, 20, 0], [1], [0], [2, 3, 0, 0]],
        )

    def test_after_set_max_step(self):
        self.assertEqual(last((CREATE, 1, 5, 20), (SET_MAX_STEP, 0), (SUMMARY,)), [1, 5, 0, 0])

    def test_after_measuring_and_removing(self):
        self.assertEqual(
            run((CREATE, 3, 1, 2), (MEASURE, 0, 10), (SUMMARY,), (MEASURE, 1, 11), (SUMMARY,),
                (MEASURE, 0, 12), (SUMMARY,), (REMOVE_MEASUREMENT, 0), (SUMMARY,), (REMOVE_MEASUREMENT, 1),
                (SUMMARY,))[2::2],
            [[3, 1, 2, 1], [3, 1, 2, 2], [3, 1, 2, 2], [3, 1, 2, 1], [3, 1, 2, 0]],
        )

    def test_after_refused_calls(self):
        made = [(CREATE, 3, 1, 2), (MEASURE, 0, 10), (MEASURE, 2, 13)]
        refused = [
            ((CREATE, 6, 2, 3), OUT_OF_RANGE), ((CREATE, 2, 2, 21), OUT_OF_RANGE),
            ((SET_MAX_STEP, 21), OUT_OF_RANGE), ((SET_MAX_STEP, 1), INCONSISTENT),
            ((MEASURE, 3, 10), NO_SUCH_CELL), ((MEASURE, 1, 100), OUT_OF_RANGE),
            ((MEASURE, 1, 20), INCONSISTENT), ((REMOVE_MEASUREMENT, 1), NO_SUCH_CELL),
        ]
        for call, answer in refused:
            with self.subTest(call=call):
                self.assertEqual(
                    run(*made, call, (SUMMARY,), (LIST_MEASUREMENTS,))[3:],
                    [answer, [3, 1, 2, 2], [2, 0, 10, 2, 13]],
                )


if __name__ == "__main__":
    unittest.main()
