"""check_cell, safe_cells and uncertain_cells."""

import unittest

from tests.support import (
    CHECK_CELL, CREATE, GREATEST_NUMBER, LOWER_BOUNDS, MEASURE, NO_SUCH_CELL, OUT_OF_RANGE,
    SAFE_CELLS, STATE, UNCERTAIN_CELLS, UPPER_BOUNDS, last, run,
)

NOT_SAFE = [0]
SAFE = [1]
UNCERTAIN = [2]

# The lower bounds are 30, 35, 40, 35, 30, the upper bounds 50, 45, 40, 45, 50.
LINE = [(CREATE, 5, 1, 5), (MEASURE, 2, 40)]


class CheckCellTest(unittest.TestCase):

    def test_at_the_lower_bound_and_one_above(self):
        self.assertEqual(last(*LINE, (CHECK_CELL, 29, 0)), SAFE)
        self.assertEqual(last(*LINE, (CHECK_CELL, 30, 0)), SAFE)
        self.assertEqual(last(*LINE, (CHECK_CELL, 31, 0)), UNCERTAIN)

    def test_at_the_upper_bound_and_one_above(self):
        self.assertEqual(last(*LINE, (CHECK_CELL, 49, 0)), UNCERTAIN)
        self.assertEqual(last(*LINE, (CHECK_CELL, 50, 0)), UNCERTAIN)
        self.assertEqual(last(*LINE, (CHECK_CELL, 51, 0)), NOT_SAFE)

    def test_a_measured_cell_is_never_uncertain(self):
        self.assertEqual(last(*LINE, (CHECK_CELL, 40, 2)), SAFE)
        self.assertEqual(last(*LINE, (CHECK_CELL, 41, 2)), NOT_SAFE)

    def test_the_required_thickness_0(self):
        for cell in range(5):
            with self.subTest(cell=cell):
                self.assertEqual(last((CREATE, 5, 1, 0), (CHECK_CELL, 0, cell)), SAFE)
                self.assertEqual(last((CREATE, 5, 1, 0), (MEASURE, 2, 0), (CHECK_CELL, 0, cell)), SAFE)

    def test_the_required_thickness_99(self):
        made = (CREATE, 2, 1, 3)
        self.assertEqual(last(made, (CHECK_CELL, 99, 1)), UNCERTAIN)
        self.assertEqual(last(made, (MEASURE, 1, 99), (CHECK_CELL, 99, 1)), SAFE)
        self.assertEqual(last(made, (MEASURE, 1, 98), (CHECK_CELL, 99, 1)), NOT_SAFE)
        self.assertEqual(last(made, (MEASURE, 1, 96), (CHECK_CELL, 99, 0)), UNCERTAIN)
        self.assertEqual(last(made, (MEASURE, 1, 95), (CHECK_CELL, 99, 0)), NOT_SAFE)

    def test_no_such_cell(self):
        for cell in [5, 6, 25, GREATEST_NUMBER]:
            with self.subTest(cell=cell):
                self.assertEqual(last(*LINE, (CHECK_CELL, 2, cell)), NO_SUCH_CELL)

    def test_a_required_thickness_out_of_range(self):
        for required in [100, 101, GREATEST_NUMBER]:
            with self.subTest(required=required):
                self.assertEqual(last(*LINE, (CHECK_CELL, required, 2)), OUT_OF_RANGE)

    def test_the_cell_is_checked_before_the_required_thickness(self):
        self.assertEqual(last(*LINE, (CHECK_CELL, 100, 5)), NO_SUCH_CELL)
        self.assertEqual(last(*LINE, (CHECK_CELL, GREATEST_NUMBER, GREATEST_NUMBER)), NO_SUCH_CELL)


class SafeCellsTest(unittest.TestCase):

    def test_all_some_and_none(self):
        expected = [
            (0, [5, 0, 1, 2, 3, 4]), (30, [5, 0, 1, 2, 3, 4]), (31, [3, 1, 2, 3]), (35, [3, 1, 2, 3]),
            (36, [1, 2]), (40, [1, 2]), (41, [0]), (99, [0]),
        ]
        for required, answer in expected:
            with self.subTest(required=required):
                self.assertEqual(last(*LINE, (SAFE_CELLS, required)), answer)

    def test_without_measurements(self):
        self.assertEqual(last((CREATE, 2, 2, 5), (SAFE_CELLS, 0)), [4, 0, 1, 2, 3])
        self.assertEqual(last((CREATE, 2, 2, 5), (SAFE_CELLS, 1)), [0])

    def test_all_cells_are_safe_for_99(self):
        made = [(CREATE, 5, 5, 0), (MEASURE, 12, 99)]
        self.assertEqual(last(*made, (SAFE_CELLS, 99)), [25] + list(range(25)))

    def test_the_cells_are_in_increasing_order_whatever_the_order_of_measuring(self):
        made = [(CREATE, 3, 2, 20), (MEASURE, 5, 60), (MEASURE, 0, 60), (MEASURE, 2, 60)]
        self.assertEqual(last(*made, (SAFE_CELLS, 60)), [3, 0, 2, 5])

    def test_a_required_thickness_out_of_range(self):
        for required in [100, 101, GREATEST_NUMBER]:
            with self.subTest(required=required):
                self.assertEqual(last(*LINE, (SAFE_CELLS, required)), OUT_OF_RANGE)


class UncertainCellsTest(unittest.TestCase):

    def test_none_some_and_all_but_the_measured_one(self):
        expected = [
            (0, [0]), (30, [0]), (31, [2, 0, 4]), (35, [2, 0, 4]), (36, [4, 0, 1, 3, 4]),
            (40, [4, 0, 1, 3, 4]), (41, [4, 0, 1, 3, 4]), (45, [4, 0, 1, 3, 4]), (46, [2, 0, 4]),
            (50, [2, 0, 4]), (51, [0]), (99, [0]),
        ]
        for required, answer in expected:
            with self.subTest(required=required):
                self.assertEqual(last(*LINE, (UNCERTAIN_CELLS, required)), answer)

    def test_without_measurements(self):
        self.assertEqual(last((CREATE, 5, 5, 0), (UNCERTAIN_CELLS, 0)), [0])
        self.assertEqual(last((CREATE, 5, 5, 0), (UNCERTAIN_CELLS, 1)), [25] + list(range(25)))
        self.assertEqual(last((CREATE, 5, 5, 0), (UNCERTAIN_CELLS, 99)), [25] + list(range(25)))

    def test_the_step_0_leaves_no_cell_uncertain(self):
        made = [(CREATE, 3, 3, 0), (MEASURE, 4, 50)]
        for required in [0, 50, 51, 99]:
            with self.subTest(required=required):
                self.assertEqual(last(*made, (UNCERTAIN_CELLS, required)), [0])

    def test_a_required_thickness_out_of_range(self):
        for required in [100, 101, GREATEST_NUMBER]:
            with self.subTest(required=required):
                self.assertEqual(last(*LINE, (UNCERTAIN_CELLS, required)), OUT_OF_RANGE)


class SafetyOnAGridTest(unittest.TestCase):

    def test_the_three_calls_follow_the_bounds_for_every_required_thickness(self):
        made = [(CREATE, 4, 3, 9), (MEASURE, 0, 20), (MEASURE, 11, 61), (MEASURE, 6, 40)]
        bounds = list(zip(last(*made, (LOWER_BOUNDS,))[1:], last(*made, (UPPER_BOUNDS,))[1:]))
        for required in range(100):
            safe = [cell for cell, (low, high) in enumerate(bounds) if required <= low]
            uncertain = [cell for cell, (low, high) in enumerate(bounds) if low < required <= high]
            checks = [(CHECK_CELL, required, cell) for cell in range(12)]
            answered = run(*made, (SAFE_CELLS, required), (UNCERTAIN_CELLS, required), *checks)[4:]
            with self.subTest(required=required):
                self.assertEqual(answered[0], [len(safe)] + safe)
                self.assertEqual(answered[1], [len(uncertain)] + uncertain)
                for cell in range(12):
                    status = SAFE if cell in safe else UNCERTAIN if cell in uncertain else NOT_SAFE
                    self.assertEqual(answered[2 + cell], status)

    def test_asking_leaves_the_instance_as_it_was(self):
        asked = [
            (CHECK_CELL, 30, 0), (CHECK_CELL, 31, 0), (CHECK_CELL, 51, 0), (CHECK_CELL, 30, 5), (CHECK_CELL, 100, 0),
            (SAFE_CELLS, 35), (SAFE_CELLS, 100), (UNCERTAIN_CELLS, 35), (UNCERTAIN_CELLS, 100),
        ]
        self.assertEqual(run(*LINE, *asked, *STATE)[2 + len(asked):], run(*LINE, *STATE)[2:])


if __name__ == "__main__":
    unittest.main()
