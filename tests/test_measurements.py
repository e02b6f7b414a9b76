"""measure, remove_measurement and list_measurements."""

import unittest

from tests.support import (
    CREATE, GREATEST_NUMBER, INCONSISTENT, LIST_MEASUREMENTS, LOWER_BOUNDS, MEASURE, NO_SUCH_CELL,
    OUT_OF_RANGE, REMOVE_MEASUREMENT, STATE, UPPER_BOUNDS, last, run,
)


class MeasureTest(unittest.TestCase):

    def test_it_answers_the_number_of_measurements(self):
        self.assertEqual(
            run((CREATE, 5, 5, 20), (MEASURE, 24, 0), (MEASURE, 0, 99), (MEASURE, 12, 60), (LIST_MEASUREMENTS,)),
            [[0], [1], [2], [3], [3, 24, 0, 0, 99, 12, 60]],
        )

    def test_every_cell_of_a_grid(self):
        calls = [(MEASURE, cell, 7) for cell in range(25)]
        answered = run((CREATE, 5, 5, 0), *calls, (LIST_MEASUREMENTS,))
        self.assertEqual(answered[1:26], [[count] for count in range(1, 26)])
        self.assertEqual(answered[26], [25] + [number for cell in range(25) for number in (cell, 7)])

    def test_the_edges_of_the_thickness(self):
        self.assertEqual(
            run((CREATE, 1, 1, 0), (MEASURE, 0, 0), (MEASURE, 0, 99), (MEASURE, 0, 100), (LIST_MEASUREMENTS,)),
            [[0], [1], [1], OUT_OF_RANGE, [1, 0, 99]],
        )

    def test_no_such_cell(self):
        self.assertEqual(last((CREATE, 3, 2, 2), (MEASURE, 5, 10)), [1])
        for cell in [6, 7, 25, GREATEST_NUMBER]:
            with self.subTest(cell=cell):
                self.assertEqual(last((CREATE, 3, 2, 2), (MEASURE, cell, 10)), NO_SUCH_CELL)

    def test_a_thickness_out_of_range(self):
        for thickness in [100, 1000, GREATEST_NUMBER]:
            with self.subTest(thickness=thickness):
                self.assertEqual(last((CREATE, 3, 2, 2), (MEASURE, 0, thickness)), OUT_OF_RANGE)

    def test_the_distance_counts_columns_and_rows(self):
        # On this grid cell 2 is at the right end of the first row, cell 9 at the left of the last.
        made = [(CREATE, 3, 4, 2), (MEASURE, 2, 50)]
        self.assertEqual(last(*made, (MEASURE, 9, 60)), [2])
        self.assertEqual(last(*made, (MEASURE, 9, 61)), INCONSISTENT)
        self.assertEqual(last(*made, (MEASURE, 9, 40)), [2])
        self.assertEqual(last(*made, (MEASURE, 9, 39)), INCONSISTENT)

    def test_cells_with_following_numbers_in_different_rows_are_no_neighbours(self):
        self.assertEqual(last((CREATE, 5, 2, 1), (MEASURE, 4, 50), (MEASURE, 5, 55)), [2])
        self.assertEqual(last((CREATE, 5, 2, 1), (MEASURE, 4, 50), (MEASURE, 5, 56)), INCONSISTENT)

    def test_the_greatest_and_the_smallest_step(self):
        self.assertEqual(last((CREATE, 2, 1, 20), (MEASURE, 0, 0), (MEASURE, 1, 20)), [2])
        self.assertEqual(last((CREATE, 2, 1, 20), (MEASURE, 0, 0), (MEASURE, 1, 21)), INCONSISTENT)
        self.assertEqual(last((CREATE, 5, 5, 0), (MEASURE, 0, 40), (MEASURE, 24, 40)), [2])
        self.assertEqual(last((CREATE, 5, 5, 0), (MEASURE, 0, 40), (MEASURE, 24, 41)), INCONSISTENT)

    def test_every_other_measurement_counts(self):
        made = [(CREATE, 5, 1, 2), (MEASURE, 0, 50), (MEASURE, 4, 54)]
        self.assertEqual(last(*made, (MEASURE, 2, 49)), INCONSISTENT)
        self.assertEqual(last(*made, (MEASURE, 2, 55)), INCONSISTENT)
        self.assertEqual(last(*made, (MEASURE, 2, 50)), [3])
        self.assertEqual(last(*made, (MEASURE, 2, 54)), [3])

    def test_a_cell_measured_again_goes_to_the_end_of_the_list(self):
        self.assertEqual(
            run((CREATE, 3, 1, 2), (MEASURE, 0, 10), (MEASURE, 1, 11), (MEASURE, 2, 12), (MEASURE, 0, 9),
                (LIST_MEASUREMENTS,), (MEASURE, 1, 11), (LIST_MEASUREMENTS,)),
            [[0], [1], [2], [3], [3], [3, 1, 11, 2, 12, 0, 9], [3], [3, 2, 12, 0, 9, 1, 11]],
        )

    def test_a_cell_measured_again_is_held_against_the_other_cells_alone(self):
        self.assertEqual(
            run((CREATE, 3, 1, 2), (MEASURE, 0, 10), (MEASURE, 0, 90), (LOWER_BOUNDS,), (UPPER_BOUNDS,),
                (MEASURE, 2, 94), (MEASURE, 0, 98), (MEASURE, 0, 99), (LIST_MEASUREMENTS,)),
            [[0], [1], [1], [3, 90, 88, 86], [3, 90, 92, 94], [2], [2], INCONSISTENT, [2, 2, 94, 0, 98]],
        )

    def test_the_cell_is_checked_before_the_thickness(self):
        made = [(CREATE, 3, 1, 2), (MEASURE, 0, 10)]
        self.assertEqual(last(*made, (MEASURE, 3, 100)), NO_SUCH_CELL)
        self.assertEqual(last(*made, (MEASURE, GREATEST_NUMBER, GREATEST_NUMBER)), NO_SUCH_CELL)

    def test_the_thickness_is_checked_before_the_consistency(self):
        self.assertEqual(last((CREATE, 3, 1, 2), (MEASURE, 0, 10), (MEASURE, 1, 100)), OUT_OF_RANGE)

    def test_the_cell_is_checked_before_the_consistency(self):
        self.assertEqual(last((CREATE, 3, 1, 2), (MEASURE, 0, 10), (MEASURE, 3, 99)), NO_SUCH_CELL)

    def test_a_refused_measurement_leaves_the_instance_as_it_was(self):
        made = [(CREATE, 3, 1, 2), (MEASURE, 0, 10), (MEASURE, 2, 13)]
        refused = [(3, 10, NO_SUCH_CELL), (0, 100, OUT_OF_RANGE), (0, 18, INCONSISTENT), (1, 13, INCONSISTENT)]
        for cell, thickness, answer in refused:
            with self.subTest(cell=cell, thickness=thickness):
                answered = run(*made, (MEASURE, cell, thickness), *STATE)
                self.assertEqual(answered[3], answer)
                self.assertEqual(answered[4:], run(*made, *STATE)[3:])


class RemoveMeasurementTest(unittest.TestCase):

    def test_it_answers_how_many_remain(self):
        self.assertEqual(
            run((CREATE, 3, 1, 2), (MEASURE, 2, 12), (MEASURE, 0, 10), (MEASURE, 1, 11),
                (REMOVE_MEASUREMENT, 0), (LIST_MEASUREMENTS,), (REMOVE_MEASUREMENT, 2),
                (REMOVE_MEASUREMENT, 1), (LIST_MEASUREMENTS,)),
            [[0], [1], [2], [3], [2], [2, 2, 12, 1, 11], [1], [0], [0]],
        )

    def test_a_removed_measurement_no_longer_counts(self):
        self.assertEqual(
            run((CREATE, 2, 1, 2), (MEASURE, 0, 10), (REMOVE_MEASUREMENT, 0), (LOWER_BOUNDS,),
                (UPPER_BOUNDS,), (MEASURE, 1, 90)),
            [[0], [1], [0], [2, 0, 0], [2, 99, 99], [1]],
        )

    def test_a_cell_that_has_not_been_measured(self):
        made = [(CREATE, 3, 1, 2), (MEASURE, 2, 12)]
        for cell in [0, 1, 3, GREATEST_NUMBER]:
            with self.subTest(cell=cell):
                answered = run(*made, (REMOVE_MEASUREMENT, cell), *STATE)
                self.assertEqual(answered[2], NO_SUCH_CELL)
                self.assertEqual(answered[3:], run(*made, *STATE)[2:])

    def test_a_cell_whose_measurement_was_removed(self):
        self.assertEqual(
            run((CREATE, 1, 1, 2), (MEASURE, 0, 12), (REMOVE_MEASUREMENT, 0), (REMOVE_MEASUREMENT, 0)),
            [[0], [1], [0], NO_SUCH_CELL],
        )


class ListMeasurementsTest(unittest.TestCase):

    def test_no_measurements(self):
        self.assertEqual(run((CREATE, 5, 5, 20), (LIST_MEASUREMENTS,)), [[0], [0]])

    def test_the_order_is_that_of_recording(self):
        self.assertEqual(
            last((CREATE, 3, 1, 20), (MEASURE, 2, 0), (MEASURE, 0, 9), (MEASURE, 1, 5), (LIST_MEASUREMENTS,)),
            [3, 2, 0, 0, 9, 1, 5],
        )

    def test_a_cell_removed_and_measured_again_stands_at_the_end(self):
        self.assertEqual(
            last((CREATE, 2, 1, 20), (MEASURE, 0, 9), (MEASURE, 1, 5), (REMOVE_MEASUREMENT, 0),
                 (MEASURE, 0, 8), (LIST_MEASUREMENTS,)),
            [2, 1, 5, 0, 8],
        )


if __name__ == "__main__":
    unittest.main()
