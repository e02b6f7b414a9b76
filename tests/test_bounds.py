"""lower_bound, upper_bound, lower_bounds, upper_bounds, is_possible and the uncertainties."""

import unittest

from tests.support import (
    CREATE, GREATEST_NUMBER, IS_POSSIBLE, LOWER_BOUND, LOWER_BOUNDS, MEASURE, MOST_UNCERTAIN_CELL,
    NO_SUCH_CELL, OUT_OF_RANGE, REMOVE_MEASUREMENT, STATE, UNCERTAINTY, UPPER_BOUND, UPPER_BOUNDS,
    last, run,
)

READERS_OF_A_CELL = [LOWER_BOUND, UPPER_BOUND, UNCERTAINTY]


class BoundsTest(unittest.TestCase):

    def test_without_measurements_they_are_0_and_99(self):
        self.assertEqual(
            run((CREATE, 2, 2, 0), (LOWER_BOUND, 3), (UPPER_BOUND, 3), (LOWER_BOUNDS,), (UPPER_BOUNDS,)),
            [[0], [0], [99], [4, 0, 0, 0, 0], [4, 99, 99, 99, 99]],
        )

    def test_one_measurement_in_a_grid_of_several_rows(self):
        self.assertEqual(
            run((CREATE, 3, 3, 10), (MEASURE, 1, 50), (LOWER_BOUNDS,), (UPPER_BOUNDS,))[2:],
            [[9, 40, 50, 40, 30, 40, 30, 20, 30, 20], [9, 60, 50, 60, 70, 60, 70, 80, 70, 80]],
        )

    def test_a_grid_with_more_rows_than_columns(self):
        self.assertEqual(
            run((CREATE, 2, 3, 7), (MEASURE, 4, 50), (LOWER_BOUNDS,), (UPPER_BOUNDS,))[2:],
            [[6, 36, 29, 43, 36, 50, 43], [6, 64, 71, 57, 64, 50, 57]],
        )

    def test_one_column_and_one_row(self):
        for columns, rows in [(1, 5), (5, 1)]:
            with self.subTest(columns=columns, rows=rows):
                self.assertEqual(
                    run((CREATE, columns, rows, 3), (MEASURE, 1, 50), (LOWER_BOUNDS,), (UPPER_BOUNDS,))[2:],
                    [[5, 47, 50, 47, 44, 41], [5, 53, 50, 53, 56, 59]],
                )

    def test_one_cell(self):
        self.assertEqual(
            run((CREATE, 1, 1, 20), (MEASURE, 0, 42), (LOWER_BOUNDS,), (UPPER_BOUNDS,))[2:],
            [[1, 42], [1, 42]],
        )

    def test_the_last_cell_of_the_greatest_grid(self):
        made = [(CREATE, 5, 5, 6), (MEASURE, 0, 50)]
        self.assertEqual(last(*made, (LOWER_BOUND, 24)), [2])
        self.assertEqual(last(*made, (UPPER_BOUND, 24)), [98])
        self.assertEqual(last(*made, (UNCERTAINTY, 24)), [96])

    def test_the_bounds_are_cut_at_0_and_at_99(self):
        self.assertEqual(
            run((CREATE, 5, 1, 20), (MEASURE, 0, 30), (LOWER_BOUNDS,), (UPPER_BOUNDS,))[2:],
            [[5, 30, 10, 0, 0, 0], [5, 30, 50, 70, 90, 99]],
        )
        self.assertEqual(
            run((CREATE, 5, 1, 20), (MEASURE, 0, 70), (LOWER_BOUNDS,), (UPPER_BOUNDS,))[2:],
            [[5, 70, 50, 30, 10, 0], [5, 70, 90, 99, 99, 99]],
        )

    def test_the_thicknesses_0_and_99(self):
        self.assertEqual(
            run((CREATE, 3, 1, 4), (MEASURE, 0, 0), (LOWER_BOUNDS,), (UPPER_BOUNDS,))[2:],
            [[3, 0, 0, 0], [3, 0, 4, 8]],
        )
        self.assertEqual(
            run((CREATE, 3, 1, 4), (MEASURE, 0, 99), (LOWER_BOUNDS,), (UPPER_BOUNDS,))[2:],
            [[3, 99, 95, 91], [3, 99, 99, 99]],
        )

    def test_the_step_0_gives_every_cell_the_measured_thickness(self):
        self.assertEqual(
            run((CREATE, 3, 2, 0), (MEASURE, 4, 33), (LOWER_BOUNDS,), (UPPER_BOUNDS,))[2:],
            [[6] + [33] * 6, [6] + [33] * 6],
        )

    def test_the_tightest_measurement_counts_whatever_its_place_in_the_list(self):
        first = [(MEASURE, 0, 50), (MEASURE, 4, 58)]
        for measured in [first, first[::-1]]:
            with self.subTest(measured=measured):
                self.assertEqual(
                    run((CREATE, 5, 1, 4), *measured, (LOWER_BOUNDS,), (UPPER_BOUNDS,))[3:],
                    [[5, 50, 46, 50, 54, 58], [5, 50, 54, 58, 62, 58]],
                )

    def test_the_single_bounds_are_those_of_the_lists(self):
        made = [(CREATE, 4, 3, 9), (MEASURE, 0, 20), (MEASURE, 11, 61), (MEASURE, 6, 40)]
        lower = last(*made, (LOWER_BOUNDS,))[1:]
        upper = last(*made, (UPPER_BOUNDS,))[1:]
        for cell in range(12):
            with self.subTest(cell=cell):
                self.assertEqual(
                    run(*made, (LOWER_BOUND, cell), (UPPER_BOUND, cell), (UNCERTAINTY, cell))[4:],
                    [[lower[cell]], [upper[cell]], [upper[cell] - lower[cell]]],
                )

    def test_no_such_cell(self):
        for reader in READERS_OF_A_CELL:
            for cell in [6, 7, 25, GREATEST_NUMBER]:
                with self.subTest(reader=reader, cell=cell):
                    self.assertEqual(last((CREATE, 3, 2, 2), (reader, cell)), NO_SUCH_CELL)

    def test_reading_leaves_the_instance_as_it_was(self):
        made = [(CREATE, 3, 2, 5), (MEASURE, 1, 40), (MEASURE, 5, 50)]
        expected = run(*made, *STATE)[3:]
        readers = [(reader, cell) for reader in READERS_OF_A_CELL for cell in (0, 6)]
        readers += [(IS_POSSIBLE, 0, 45), (IS_POSSIBLE, 6, 45), (IS_POSSIBLE, 0, 100)]
        self.assertEqual(run(*made, *readers, *STATE)[3 + len(readers):], expected)


class IsPossibleTest(unittest.TestCase):

    def possible(self, made, cell):
        found = []
        for start in range(0, 100, 25):
            asked = [(IS_POSSIBLE, cell, thickness) for thickness in range(start, start + 25)]
            found += run(*made, *asked)[len(made):]
        self.assertTrue(all(answer in ([0], [1]) for answer in found))
        return [thickness for thickness in range(100) if found[thickness] == [1]]

    def test_a_measured_cell_has_its_thickness_alone(self):
        made = [(CREATE, 3, 1, 5), (MEASURE, 1, 40)]
        self.assertEqual(self.possible(made, 1), [40])
        self.assertEqual(self.possible([(CREATE, 1, 1, 20), (MEASURE, 0, 0)], 0), [0])
        self.assertEqual(self.possible([(CREATE, 1, 1, 20), (MEASURE, 0, 99)], 0), [99])

    def test_an_unmeasured_cell_has_all_between_its_bounds(self):
        made = [(CREATE, 3, 1, 5), (MEASURE, 1, 40)]
        self.assertEqual(self.possible(made, 0), list(range(35, 46)))

    def test_cut_bounds(self):
        made = [(CREATE, 2, 1, 20), (MEASURE, 0, 5)]
        self.assertEqual(self.possible(made, 1), list(range(0, 26)))
        made = [(CREATE, 2, 1, 20), (MEASURE, 0, 95)]
        self.assertEqual(self.possible(made, 1), list(range(75, 100)))

    def test_without_measurements_everything_is_possible(self):
        self.assertEqual(self.possible([(CREATE, 5, 5, 0)], 24), list(range(100)))

    def test_after_the_measurement_was_removed(self):
        made = [(CREATE, 1, 1, 5), (MEASURE, 0, 40), (REMOVE_MEASUREMENT, 0)]
        self.assertEqual(self.possible(made, 0), list(range(100)))

    def test_no_such_cell(self):
        for cell in [6, GREATEST_NUMBER]:
            with self.subTest(cell=cell):
                self.assertEqual(last((CREATE, 3, 2, 2), (IS_POSSIBLE, cell, 10)), NO_SUCH_CELL)

    def test_a_thickness_out_of_range(self):
        for thickness in [100, GREATEST_NUMBER]:
            for measured in [[], [(MEASURE, 0, 50)]]:
                with self.subTest(thickness=thickness, measured=measured):
                    self.assertEqual(
                        last((CREATE, 3, 2, 2), *measured, (IS_POSSIBLE, 0, thickness)), OUT_OF_RANGE
                    )

    def test_the_cell_is_checked_before_the_thickness(self):
        self.assertEqual(last((CREATE, 3, 2, 2), (IS_POSSIBLE, 6, 100)), NO_SUCH_CELL)
        self.assertEqual(
            last((CREATE, 3, 2, 2), (IS_POSSIBLE, GREATEST_NUMBER, GREATEST_NUMBER)), NO_SUCH_CELL
        )


class UncertaintyTest(unittest.TestCase):

    def test_it_is_the_difference_of_the_bounds(self):
        self.assertEqual(
            run((CREATE, 3, 1, 5), (UNCERTAINTY, 0), (MEASURE, 0, 8), (UNCERTAINTY, 0), (UNCERTAINTY, 1),
                (UNCERTAINTY, 2)),
            [[0], [99], [1], [0], [10], [18]],
        )

    def test_the_most_uncertain_cell_may_be_first_between_or_last(self):
        line = (CREATE, 5, 1, 3)
        self.assertEqual(last(line, (MEASURE, 4, 50), (MOST_UNCERTAIN_CELL,)), [0, 24])
        self.assertEqual(last(line, (MEASURE, 0, 50), (MOST_UNCERTAIN_CELL,)), [4, 24])
        self.assertEqual(
            last(line, (MEASURE, 0, 50), (MEASURE, 4, 50), (MOST_UNCERTAIN_CELL,)), [2, 12]
        )

    def test_ties_go_to_the_smaller_cell(self):
        self.assertEqual(last((CREATE, 5, 5, 3), (MOST_UNCERTAIN_CELL,)), [0, 99])
        self.assertEqual(last((CREATE, 3, 3, 3), (MEASURE, 4, 50), (MOST_UNCERTAIN_CELL,)), [0, 12])
        self.assertEqual(last((CREATE, 3, 3, 3), (MEASURE, 0, 50), (MOST_UNCERTAIN_CELL,)), [8, 24])
        self.assertEqual(last((CREATE, 2, 2, 3), (MEASURE, 0, 50), (MEASURE, 3, 50), (MOST_UNCERTAIN_CELL,)), [1, 6])

    def test_ties_where_no_cell_is_uncertain(self):
        self.assertEqual(last((CREATE, 3, 3, 0), (MEASURE, 4, 50), (MOST_UNCERTAIN_CELL,)), [0, 0])
        self.assertEqual(last((CREATE, 1, 1, 9), (MEASURE, 0, 50), (MOST_UNCERTAIN_CELL,)), [0, 0])


if __name__ == "__main__":
    unittest.main()
