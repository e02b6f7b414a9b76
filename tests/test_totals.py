"""total_uncertainty, total_uncertainty_with and worst_total_uncertainty."""

import random
import unittest

from tests.support import (
    ALREADY_MEASURED, CREATE, GREATEST_NUMBER, INCONSISTENT, LOWER_BOUND, MEASURE, NO_SUCH_CELL,
    OUT_OF_RANGE, REMOVE_MEASUREMENT, SET_MAX_STEP, STATE, TOTAL_UNCERTAINTY, TOTAL_UNCERTAINTY_WITH,
    UPPER_BOUND, WORST_TOTAL_UNCERTAINTY, last, run,
)


class TotalUncertaintyTest(unittest.TestCase):

    def test_without_measurements_it_is_99_for_each_cell(self):
        for columns in range(1, 6):
            for rows in range(1, 6):
                with self.subTest(columns=columns, rows=rows):
                    self.assertEqual(last((CREATE, columns, rows, 20), (TOTAL_UNCERTAINTY,)), [99 * columns * rows])

    def test_the_step_0(self):
        self.assertEqual(last((CREATE, 5, 5, 0), (TOTAL_UNCERTAINTY,)), [2475])
        self.assertEqual(last((CREATE, 5, 5, 0), (MEASURE, 7, 50), (TOTAL_UNCERTAINTY,)), [0])

    def test_it_is_the_sum_of_the_uncertainties(self):
        # The bounds are 8 and 8, 3 and 13, 0 and 18; behind the second measurement 8, 9 to 13, 14.
        self.assertEqual(
            run((CREATE, 3, 1, 5), (MEASURE, 0, 8), (TOTAL_UNCERTAINTY,), (MEASURE, 2, 14),
                (TOTAL_UNCERTAINTY,), (REMOVE_MEASUREMENT, 0), (TOTAL_UNCERTAINTY,)),
            [[0], [1], [28], [2], [4], [1], [30]],
        )

    def test_it_follows_the_step(self):
        self.assertEqual(
            run((CREATE, 2, 2, 5), (MEASURE, 0, 50), (TOTAL_UNCERTAINTY,), (SET_MAX_STEP, 1),
                (TOTAL_UNCERTAINTY,))[2:],
            [[40], [5], [8]],
        )

    def test_bounds_that_are_cut(self):
        self.assertEqual(last((CREATE, 2, 1, 20), (MEASURE, 0, 0), (TOTAL_UNCERTAINTY,)), [20])
        self.assertEqual(last((CREATE, 2, 1, 20), (MEASURE, 0, 99), (TOTAL_UNCERTAINTY,)), [20])


class TotalUncertaintyWithTest(unittest.TestCase):

    def test_a_first_measurement(self):
        self.assertEqual(last((CREATE, 3, 1, 5), (TOTAL_UNCERTAINTY_WITH, 0, 8)), [28])
        self.assertEqual(last((CREATE, 3, 1, 5), (TOTAL_UNCERTAINTY_WITH, 1, 50)), [20])
        self.assertEqual(last((CREATE, 1, 1, 5), (TOTAL_UNCERTAINTY_WITH, 0, 50)), [0])

    def test_a_further_measurement(self):
        made = [(CREATE, 3, 1, 5), (MEASURE, 0, 50)]
        self.assertEqual(last(*made, (TOTAL_UNCERTAINTY_WITH, 2, 50)), [10])
        self.assertEqual(last(*made, (TOTAL_UNCERTAINTY_WITH, 2, 54)), [6])
        self.assertEqual(last(*made, (TOTAL_UNCERTAINTY_WITH, 2, 60)), [0])

    def test_a_cell_that_has_been_measured(self):
        made = [(CREATE, 3, 1, 5), (MEASURE, 0, 8)]
        self.assertEqual(last(*made, (TOTAL_UNCERTAINTY_WITH, 0, 8)), [28])
        self.assertEqual(last(*made, (TOTAL_UNCERTAINTY_WITH, 0, 50)), [30])

    def test_the_edges_of_the_thickness(self):
        made = [(CREATE, 2, 1, 20)]
        self.assertEqual(last(*made, (TOTAL_UNCERTAINTY_WITH, 0, 0)), [20])
        self.assertEqual(last(*made, (TOTAL_UNCERTAINTY_WITH, 0, 99)), [20])

    def test_it_is_the_total_after_that_measure(self):
        choice = random.Random(3)
        for round_number in range(60):
            columns, rows, max_step = choice.randint(1, 5), choice.randint(1, 5), choice.choice([0, 1, 4, 20])
            made = [(CREATE, columns, rows, max_step)]
            for number in range(choice.randint(0, 8)):
                made.append((MEASURE, choice.randrange(columns * rows), choice.randint(30, 60)))
            for number in range(6):
                cell, thickness = choice.randrange(columns * rows + 1), choice.randint(20, 102)
                measured, total = run(*made, (MEASURE, cell, thickness), (TOTAL_UNCERTAINTY,))[-2:]
                expected = measured if measured[0] < 0 else total
                with self.subTest(made=made, cell=cell, thickness=thickness):
                    self.assertEqual(last(*made, (TOTAL_UNCERTAINTY_WITH, cell, thickness)), expected)

    def test_no_such_cell(self):
        for cell in [3, 4, 25, GREATEST_NUMBER]:
            with self.subTest(cell=cell):
                self.assertEqual(last((CREATE, 3, 1, 5), (TOTAL_UNCERTAINTY_WITH, cell, 8)), NO_SUCH_CELL)

    def test_a_thickness_out_of_range(self):
        for thickness in [100, 101, GREATEST_NUMBER]:
            with self.subTest(thickness=thickness):
                self.assertEqual(last((CREATE, 3, 1, 5), (TOTAL_UNCERTAINTY_WITH, 0, thickness)), OUT_OF_RANGE)

    def test_a_measurement_that_is_not_consistent_with_those_of_the_other_cells(self):
        made = [(CREATE, 3, 1, 5), (MEASURE, 0, 50), (MEASURE, 2, 54)]
        for cell, thickness in [(1, 48), (1, 56), (0, 43), (0, 65)]:
            with self.subTest(cell=cell, thickness=thickness):
                self.assertEqual(last(*made, (TOTAL_UNCERTAINTY_WITH, cell, thickness)), INCONSISTENT)
        self.assertEqual(last(*made, (TOTAL_UNCERTAINTY_WITH, 1, 49)), [0])
        self.assertEqual(last(*made, (TOTAL_UNCERTAINTY_WITH, 1, 55)), [0])
        self.assertEqual(last(*made, (TOTAL_UNCERTAINTY_WITH, 0, 44)), [0])
        self.assertEqual(last(*made, (TOTAL_UNCERTAINTY_WITH, 0, 64)), [0])

    def test_the_errors_are_checked_in_the_order_of_measure(self):
        made = [(CREATE, 3, 1, 5), (MEASURE, 0, 50)]
        self.assertEqual(last(*made, (TOTAL_UNCERTAINTY_WITH, 3, 100)), NO_SUCH_CELL)
        self.assertEqual(last(*made, (TOTAL_UNCERTAINTY_WITH, 3, 99)), NO_SUCH_CELL)
        self.assertEqual(last(*made, (TOTAL_UNCERTAINTY_WITH, 1, 100)), OUT_OF_RANGE)
        self.assertEqual(last(*made, (TOTAL_UNCERTAINTY_WITH, 1, 99)), INCONSISTENT)

    def test_nothing_is_changed_by_it(self):
        made = [(CREATE, 3, 1, 5), (MEASURE, 2, 54), (MEASURE, 0, 50)]
        expected = run(*made, *STATE, (TOTAL_UNCERTAINTY,))[3:]
        for cell, thickness in [(1, 50), (2, 52), (3, 50), (1, 100), (1, 99)]:
            with self.subTest(cell=cell, thickness=thickness):
                asked = (TOTAL_UNCERTAINTY_WITH, cell, thickness)
                self.assertEqual(run(*made, asked, *STATE, (TOTAL_UNCERTAINTY,))[4:], expected)


class WorstTotalUncertaintyTest(unittest.TestCase):

    def test_one_cell(self):
        self.assertEqual(last((CREATE, 1, 1, 20), (WORST_TOTAL_UNCERTAINTY, 0)), [0])

    def test_the_worst_thickness_lies_between_the_bounds(self):
        # Near 0 and 99 the bounds of the other cells are cut.
        self.assertEqual(last((CREATE, 3, 1, 20), (WORST_TOTAL_UNCERTAINTY, 0)), [120])
        self.assertEqual(last((CREATE, 3, 1, 20), (WORST_TOTAL_UNCERTAINTY, 1)), [80])

    def test_the_worst_thickness_is_the_upper_bound_alone(self):
        # The bounds of cell 1 are 0 and 10; with t there, those of cell 2 are 0 and t + 10.
        self.assertEqual(last((CREATE, 3, 1, 10), (MEASURE, 0, 0), (WORST_TOTAL_UNCERTAINTY, 1)), [20])

    def test_the_worst_thickness_is_the_lower_bound_alone(self):
        # The bounds of cell 1 are 89 and 99; with t there, those of cell 2 are t - 10 and 99.
        self.assertEqual(last((CREATE, 3, 1, 10), (MEASURE, 0, 99), (WORST_TOTAL_UNCERTAINTY, 1)), [20])

    def test_the_step_0(self):
        self.assertEqual(last((CREATE, 5, 5, 0), (WORST_TOTAL_UNCERTAINTY, 24)), [0])
        self.assertEqual(last((CREATE, 5, 5, 0), (MEASURE, 0, 50), (WORST_TOTAL_UNCERTAINTY, 24)), [0])

    def test_it_is_the_greatest_total_between_the_bounds(self):
        choice = random.Random(4)
        for round_number in range(25):
            columns, rows, max_step = choice.randint(2, 5), choice.randint(1, 5), choice.choice([0, 1, 5, 9, 20])
            made = [(CREATE, columns, rows, max_step)]
            for cell in choice.sample(range(columns * rows - 1), choice.randint(0, min(5, columns * rows - 2))):
                made.append((MEASURE, cell, choice.choice([0, 5, 50, 60, 95, 99])))
            cell = columns * rows - 1
            with self.subTest(made=made):
                self.assertEqual(
                    last(*made, (WORST_TOTAL_UNCERTAINTY, cell)), [max(self.totals(made, cell))]
                )

    def totals(self, made, cell):
        lower = last(*made, (LOWER_BOUND, cell))[0]
        upper = last(*made, (UPPER_BOUND, cell))[0]
        totals = []
        for thickness in range(lower, upper + 1):
            totals += last(*made, (TOTAL_UNCERTAINTY_WITH, cell, thickness))
        self.assertNotIn(-33, totals)
        return totals

    def test_no_such_cell(self):
        for cell in [3, 4, 25, GREATEST_NUMBER]:
            with self.subTest(cell=cell):
                self.assertEqual(last((CREATE, 3, 1, 5), (WORST_TOTAL_UNCERTAINTY, cell)), NO_SUCH_CELL)

    def test_a_cell_that_has_been_measured(self):
        self.assertEqual(
            run((CREATE, 2, 1, 5), (WORST_TOTAL_UNCERTAINTY, 0), (MEASURE, 0, 50), (MEASURE, 1, 52),
                (WORST_TOTAL_UNCERTAINTY, 0), (WORST_TOTAL_UNCERTAINTY, 1), (REMOVE_MEASUREMENT, 0),
                (WORST_TOTAL_UNCERTAINTY, 0), (WORST_TOTAL_UNCERTAINTY, 1)),
            [[0], [10], [1], [2], ALREADY_MEASURED, ALREADY_MEASURED, [1], [0], ALREADY_MEASURED],
        )

    def test_nothing_is_changed_by_it(self):
        made = [(CREATE, 3, 1, 5), (MEASURE, 2, 54), (MEASURE, 0, 50)]
        expected = run(*made, *STATE, (TOTAL_UNCERTAINTY,))[3:]
        for cell in [1, 2, 3]:
            with self.subTest(cell=cell):
                asked = (WORST_TOTAL_UNCERTAINTY, cell)
                self.assertEqual(run(*made, asked, *STATE, (TOTAL_UNCERTAINTY,))[4:], expected)


if __name__ == "__main__":
    unittest.main()
