"""safe_route, safe_route_length and max_safe_thickness."""

import unittest

from tests.support import (
    CREATE, GREATEST_NUMBER, MAX_SAFE_THICKNESS, MEASURE, NO_SAFE_ROUTE, NO_SUCH_CELL, OUT_OF_RANGE,
    SAFE_ROUTE, SAFE_ROUTE_LENGTH, STATE, last, run,
)

# What drawn() makes of a point; what it makes of a # is thinner.
REQUIRED = 50


def drawn(*rows):
    """Give the calls for a grid whose cells are safe at a point and not safe at a #."""
    calls = [(CREATE, len(rows[0]), len(rows), 20)]
    for cell, sign in enumerate("".join(rows)):
        calls.append((MEASURE, cell, 50 if sign == "." else 49))
    return calls


class RouteTest(unittest.TestCase):

    def check_route(self, made, required, origin, target, route):
        asked = [(SAFE_ROUTE, required, origin, target), (SAFE_ROUTE_LENGTH, required, origin, target)]
        self.assertEqual(run(*made, *asked)[len(made):], [[len(route)] + route, [len(route) - 1]])

    def check_refused(self, made, required, origin, target, refused):
        asked = [(SAFE_ROUTE, required, origin, target), (SAFE_ROUTE_LENGTH, required, origin, target)]
        self.assertEqual(run(*made, *asked)[len(made):], [refused, refused])


class SafeRouteTest(RouteTest):

    def test_origin_and_target_are_the_same_safe_cell(self):
        self.check_route(drawn("."), REQUIRED, 0, 0, [0])
        self.check_route(drawn("###", "#.#", "###"), REQUIRED, 4, 4, [4])
        self.check_route([(CREATE, 5, 5, 0)], 0, 24, 24, [24])

    def test_origin_and_target_are_the_same_cell_that_is_not_safe(self):
        self.check_refused(drawn("#"), REQUIRED, 0, 0, NO_SAFE_ROUTE)
        self.check_refused(drawn("...", ".#.", "..."), REQUIRED, 4, 4, NO_SAFE_ROUTE)
        self.check_refused([(CREATE, 5, 5, 0)], 1, 24, 24, NO_SAFE_ROUTE)

    def test_one_row(self):
        row = drawn(".....")
        self.check_route(row, REQUIRED, 0, 4, [0, 1, 2, 3, 4])
        self.check_route(row, REQUIRED, 4, 0, [4, 3, 2, 1, 0])
        self.check_route(row, REQUIRED, 1, 2, [1, 2])

    def test_one_column(self):
        column = drawn(".", ".", ".", ".", ".")
        self.check_route(column, REQUIRED, 0, 4, [0, 1, 2, 3, 4])
        self.check_route(column, REQUIRED, 4, 0, [4, 3, 2, 1, 0])
        self.check_route(column, REQUIRED, 3, 1, [3, 2, 1])

    def test_the_greatest_grid(self):
        grid = drawn(*["....."] * 5)
        self.check_route(grid, REQUIRED, 0, 24, [0, 1, 2, 3, 4, 9, 14, 19, 24])
        self.check_route(grid, REQUIRED, 24, 0, [24, 19, 14, 9, 4, 3, 2, 1, 0])
        self.check_route(grid, REQUIRED, 4, 20, [4, 3, 2, 1, 0, 5, 10, 15, 20])
        self.check_route(grid, REQUIRED, 20, 4, [20, 15, 10, 5, 0, 1, 2, 3, 4])

    def test_round_cells_that_are_not_safe(self):
        there = [0, 1, 2, 3, 4, 9, 14, 13, 12, 11, 10, 15, 20, 21, 22, 23, 24]
        snake = drawn(".....", "####.", ".....", ".####", ".....")
        self.check_route(snake, REQUIRED, 0, 24, there)
        self.check_route(snake, REQUIRED, 24, 0, there[::-1])

    def test_round_a_wall_with_a_blind_alley(self):
        walled = drawn("..#..", ".##..", "...#.", "##.#.", ".....")
        self.check_route(walled, REQUIRED, 0, 3, [0, 5, 10, 11, 12, 17, 22, 23, 24, 19, 14, 9, 4, 3])
        self.check_route(walled, REQUIRED, 20, 1, [20, 21, 22, 17, 12, 11, 10, 5, 0, 1])

    def test_cells_with_following_numbers_in_different_rows_are_no_neighbours(self):
        self.check_route(drawn("..", ".."), REQUIRED, 1, 2, [1, 0, 2])
        self.check_refused(drawn("#.", ".#"), REQUIRED, 1, 2, NO_SAFE_ROUTE)
        self.check_refused(drawn("#.", ".#"), REQUIRED, 2, 1, NO_SAFE_ROUTE)
        self.check_refused(drawn("##.", ".##"), REQUIRED, 3, 2, NO_SAFE_ROUTE)

    def test_the_lower_bound_decides_not_the_measurement_alone(self):
        # The lower bounds are 30, 35, 40, 35, 30.
        made = [(CREATE, 5, 1, 5), (MEASURE, 2, 40)]
        self.check_route(made, 30, 0, 4, [0, 1, 2, 3, 4])
        self.check_refused(made, 31, 0, 4, NO_SAFE_ROUTE)
        self.check_route(made, 35, 1, 3, [1, 2, 3])
        self.check_refused(made, 36, 1, 3, NO_SAFE_ROUTE)

    def test_the_required_thicknesses_0_and_99(self):
        self.check_route([(CREATE, 3, 1, 2)], 0, 0, 2, [0, 1, 2])
        self.check_refused([(CREATE, 3, 1, 2)], 1, 0, 2, NO_SAFE_ROUTE)
        self.check_refused([(CREATE, 3, 1, 2)], 99, 0, 2, NO_SAFE_ROUTE)
        self.check_route([(CREATE, 3, 1, 0), (MEASURE, 0, 99)], 99, 0, 2, [0, 1, 2])
        self.check_refused([(CREATE, 3, 1, 1), (MEASURE, 0, 99)], 99, 0, 2, NO_SAFE_ROUTE)

    def test_there_is_none_where_only_one_cell_is_not_safe(self):
        for row in ["#..", "..#", ".#."]:
            with self.subTest(row=row):
                self.check_refused(drawn(row), REQUIRED, 0, 2, NO_SAFE_ROUTE)
                self.check_refused(drawn(row), REQUIRED, 2, 0, NO_SAFE_ROUTE)

    def test_there_is_none_across_a_row_that_is_not_safe(self):
        self.check_refused(drawn("...", "###", "..."), REQUIRED, 1, 7, NO_SAFE_ROUTE)
        self.check_refused(drawn(".#.", ".#.", ".#."), REQUIRED, 3, 5, NO_SAFE_ROUTE)


class OrderOfNeighboursTest(RouteTest):

    def test_between_the_corners_of_a_grid(self):
        grid = drawn("...", "...", "...")
        self.check_route(grid, REQUIRED, 0, 8, [0, 1, 2, 5, 8])
        self.check_route(grid, REQUIRED, 8, 0, [8, 5, 2, 1, 0])
        self.check_route(grid, REQUIRED, 2, 6, [2, 1, 0, 3, 6])
        self.check_route(grid, REQUIRED, 6, 2, [6, 3, 0, 1, 2])

    def test_between_cells_that_are_no_corners(self):
        grid = drawn("...", "...", "...")
        self.check_route(grid, REQUIRED, 1, 6, [1, 0, 3, 6])
        self.check_route(grid, REQUIRED, 6, 1, [6, 3, 0, 1])
        self.check_route(grid, REQUIRED, 1, 8, [1, 2, 5, 8])
        self.check_route(grid, REQUIRED, 8, 1, [8, 5, 2, 1])
        self.check_route(grid, REQUIRED, 3, 2, [3, 0, 1, 2])
        self.check_route(grid, REQUIRED, 2, 3, [2, 1, 0, 3])

    def test_the_route_back_may_be_another_one(self):
        # Seen from cell 2 the right is ahead of below, seen from cell 14 the left of the right.
        grid = drawn(".#..", "#...", "..#.", "....")
        self.check_route(grid, REQUIRED, 14, 2, [14, 15, 11, 7, 3, 2])
        self.check_route(grid, REQUIRED, 2, 14, [2, 6, 5, 9, 13, 14])

    def test_above_is_ahead_of_left(self):
        self.check_route(drawn("..", ".."), REQUIRED, 0, 3, [0, 1, 3])

    def test_above_is_ahead_of_right(self):
        self.check_route(drawn("..", ".."), REQUIRED, 1, 2, [1, 0, 2])

    def test_above_is_ahead_of_below(self):
        ring = drawn("...", ".#.", "...")
        self.check_route(ring, REQUIRED, 3, 5, [3, 0, 1, 2, 5])
        self.check_route(ring, REQUIRED, 5, 3, [5, 2, 1, 0, 3])

    def test_left_is_ahead_of_right(self):
        ring = drawn("...", ".#.", "...")
        self.check_route(ring, REQUIRED, 1, 7, [1, 0, 3, 6, 7])
        self.check_route(ring, REQUIRED, 7, 1, [7, 6, 3, 0, 1])

    def test_left_is_ahead_of_below(self):
        self.check_route(drawn("..", ".."), REQUIRED, 2, 1, [2, 0, 1])

    def test_right_is_ahead_of_below(self):
        self.check_route(drawn("..", ".."), REQUIRED, 3, 0, [3, 1, 0])

    def test_the_order_decides_only_between_cells_that_are_nearer(self):
        # The cell above the target is safe, but lies on no shortest route.
        self.check_route(drawn("...", "...", "..."), REQUIRED, 6, 5, [6, 3, 4, 5])
        self.check_route(drawn("#..", "...", "..."), REQUIRED, 3, 5, [3, 4, 5])


class RefusedRouteTest(RouteTest):

    def test_no_such_cell(self):
        made = drawn("...", "...")
        for cell in [6, 7, 25, GREATEST_NUMBER]:
            with self.subTest(cell=cell):
                self.check_refused(made, REQUIRED, cell, 0, NO_SUCH_CELL)
                self.check_refused(made, REQUIRED, 0, cell, NO_SUCH_CELL)
                self.check_refused(made, REQUIRED, cell, cell, NO_SUCH_CELL)

    def test_a_required_thickness_out_of_range(self):
        for required in [100, 101, GREATEST_NUMBER]:
            with self.subTest(required=required):
                self.check_refused(drawn("..."), required, 0, 2, OUT_OF_RANGE)
                self.check_refused([(CREATE, 1, 1, 0), (MEASURE, 0, 99)], required, 0, 0, OUT_OF_RANGE)

    def test_the_cells_are_checked_before_the_required_thickness(self):
        self.check_refused(drawn("..."), 100, 3, 0, NO_SUCH_CELL)
        self.check_refused(drawn("..."), 100, 0, 3, NO_SUCH_CELL)
        self.check_refused(drawn("..."), GREATEST_NUMBER, GREATEST_NUMBER, GREATEST_NUMBER, NO_SUCH_CELL)

    def test_the_cells_are_checked_before_the_route(self):
        self.check_refused(drawn("###"), REQUIRED, 3, 0, NO_SUCH_CELL)
        self.check_refused(drawn("###"), REQUIRED, 0, 3, NO_SUCH_CELL)

    def test_the_required_thickness_is_checked_before_the_route(self):
        self.check_refused(drawn(".#."), 99, 0, 2, NO_SAFE_ROUTE)
        self.check_refused(drawn(".#."), 100, 0, 2, OUT_OF_RANGE)

    def test_asking_leaves_the_instance_as_it_was(self):
        made = [(CREATE, 3, 2, 5), (MEASURE, 4, 40), (MEASURE, 0, 35)]
        asked = [(SAFE_ROUTE, 30, 2, 3), (SAFE_ROUTE, 36, 0, 2), (SAFE_ROUTE, 30, 6, 0), (SAFE_ROUTE, 100, 0, 0)]
        asked += [(SAFE_ROUTE_LENGTH,) + call[1:] for call in asked]
        asked += [(MAX_SAFE_THICKNESS, 0, 5), (MAX_SAFE_THICKNESS, 0, 6)]
        self.assertEqual(run(*made, *asked, *STATE)[3 + len(asked):], run(*made, *STATE)[3:])


class MaxSafeThicknessTest(RouteTest):

    def check_thickness(self, made, origin, target, thickness):
        self.assertEqual(last(*made, (MAX_SAFE_THICKNESS, origin, target)), [thickness])
        self.assertEqual(last(*made, (MAX_SAFE_THICKNESS, target, origin)), [thickness])
        self.assertNotEqual(last(*made, (SAFE_ROUTE, thickness, origin, target)), NO_SAFE_ROUTE)
        if thickness < 99:
            self.check_refused(made, thickness + 1, origin, target, NO_SAFE_ROUTE)

    def test_from_a_cell_to_itself_it_is_the_lower_bound(self):
        made = [(CREATE, 3, 1, 5), (MEASURE, 1, 40)]
        self.check_thickness(made, 0, 0, 35)
        self.check_thickness(made, 1, 1, 40)

    def test_without_measurements_it_is_0(self):
        for origin, target in [(0, 0), (0, 24), (7, 18)]:
            with self.subTest(origin=origin, target=target):
                self.check_thickness([(CREATE, 5, 5, 0)], origin, target, 0)

    def test_it_may_be_1_and_98_and_99(self):
        for thickness in [0, 1, 98, 99]:
            with self.subTest(thickness=thickness):
                self.check_thickness([(CREATE, 5, 5, 0), (MEASURE, 12, thickness)], 0, 24, thickness)

    def test_the_thinnest_cell_of_a_row_decides(self):
        made = [(CREATE, 3, 1, 20), (MEASURE, 0, 50), (MEASURE, 1, 40), (MEASURE, 2, 60)]
        self.check_thickness(made, 0, 2, 40)
        self.check_thickness(made, 0, 1, 40)
        self.check_thickness(made, 2, 2, 60)

    def test_a_longer_route_may_be_safe_for_more(self):
        made = drawn("...", ".#.", "...")
        self.check_thickness(made, 1, 7, 50)
        self.check_thickness(made, 1, 4, 49)

    def test_one_end_may_decide(self):
        made = [(CREATE, 3, 1, 10), (MEASURE, 0, 50)]
        self.check_thickness(made, 0, 2, 30)
        self.check_thickness(made, 0, 1, 40)

    def test_no_such_cell(self):
        for cell in [3, 4, 25, GREATEST_NUMBER]:
            with self.subTest(cell=cell):
                self.assertEqual(last((CREATE, 3, 1, 2), (MAX_SAFE_THICKNESS, cell, 0)), NO_SUCH_CELL)
                self.assertEqual(last((CREATE, 3, 1, 2), (MAX_SAFE_THICKNESS, 0, cell)), NO_SUCH_CELL)
                self.assertEqual(last((CREATE, 3, 1, 2), (MAX_SAFE_THICKNESS, cell, cell)), NO_SUCH_CELL)


if __name__ == "__main__":
    unittest.main()
