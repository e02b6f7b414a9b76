"""The document's requirements, held against ice that is searched without any formula of a bound."""

import random
import unittest

from tests.support import (
    CREATE, INCONSISTENT, IS_POSSIBLE, LIST_MEASUREMENTS, LOWER_BOUNDS, MAX_SAFE_THICKNESS, MEASURE,
    MOST_UNCERTAIN_CELL, NO_SAFE_ROUTE, SAFE_ROUTE, SAFE_ROUTE_LENGTH, UPPER_BOUNDS, neighbours, run,
)


def possible_thicknesses(columns, rows, max_step, measured):
    """Give for each cell the thicknesses left when no neighbour rules them out any more.

    With a greatest difference alone between neighbours, what is left is just what is possible.
    """
    cells = range(columns * rows)
    left = [{measured[cell]} if cell in measured else set(range(100)) for cell in cells]
    changed = True
    while changed:
        changed = False
        for cell in cells:
            for near in neighbours(columns, rows, cell):
                kept = {
                    t for t in left[cell]
                    if any(u in left[near] for u in range(t - max_step, t + max_step + 1))
                }
                changed = changed or kept != left[cell]
                left[cell] = kept
    return left


def all_ice(columns, rows, max_step, measured):
    """Give every possible ice of a small grid, by trying each thickness of each cell."""
    grown = [[]]
    for cell in range(columns * rows):
        before = [near for near in neighbours(columns, rows, cell) if near < cell]
        choices = [measured[cell]] if cell in measured else range(100)
        grown = [
            ice + [thickness] for ice in grown for thickness in choices
            if all(abs(ice[near] - thickness) <= max_step for near in before)
        ]
    return grown


def all_routes(columns, rows, origin, target):
    """Give every route that enters no cell twice."""
    found = []
    growing = [[origin]]
    while growing:
        route = growing.pop()
        if route[-1] == target:
            found.append(route)
            continue
        for near in neighbours(columns, rows, route[-1]):
            if near not in route:
                growing.append(route + [near])
    return found


def turns_from_the_target(columns, rows, route):
    """Give, from the target backwards, the place of each next cell among its neighbours in order."""
    turns = []
    for cell, before in zip(route[::-1], route[::-1][1:]):
        column, row = cell % columns, cell // columns
        order = [(column, row - 1), (column - 1, row), (column + 1, row), (column, row + 1)]
        turns.append(order.index((before % columns, before // columns)))
    return turns


class RequirementsTest(unittest.TestCase):

    def bounds(self, columns, rows, max_step, measured):
        measures = [(MEASURE, cell, thickness) for cell, thickness in measured.items()]
        answered = run((CREATE, columns, rows, max_step), *measures, (LOWER_BOUNDS,), (UPPER_BOUNDS,))
        self.assertNotIn(INCONSISTENT, answered)
        return answered[-2][1:], answered[-1][1:]

    def test_the_bounds_are_exact_on_small_grids(self):
        grids = [
            (2, 2, 2, {0: 0}), (2, 2, 2, {3: 98}), (2, 2, 1, {1: 50, 2: 52}), (2, 2, 0, {2: 7}),
            (3, 2, 1, {1: 1, 5: 2}), (1, 4, 3, {1: 97}), (4, 1, 3, {0: 4, 3: 9}),
        ]
        for columns, rows, max_step, measured in grids:
            with self.subTest(columns=columns, rows=rows, max_step=max_step, measured=measured):
                ices = all_ice(columns, rows, max_step, measured)
                lower, upper = self.bounds(columns, rows, max_step, measured)
                for cell in range(columns * rows):
                    found = sorted({ice[cell] for ice in ices})
                    self.assertEqual(found, list(range(lower[cell], upper[cell] + 1)))

    def test_bounds_and_measurements_on_many_grids(self):
        choice = random.Random(1)
        for round_number in range(60):
            columns, rows = choice.randint(1, 5), choice.randint(1, 5)
            max_step = choice.choice([0, 1, 2, 5, 9, 20])
            with self.subTest(round_number=round_number):
                self.follow_measurements(choice, columns, rows, max_step)

    def follow_measurements(self, choice, columns, rows, max_step):
        measured = {}
        for number in range(5):
            left = possible_thicknesses(columns, rows, max_step, measured)
            lower, upper = self.bounds(columns, rows, max_step, measured)
            self.assertEqual([min(kept) for kept in left], lower)
            self.assertEqual([max(kept) for kept in left], upper)
            cell = choice.randrange(columns * rows)
            others = {c: t for c, t in measured.items() if c != cell}
            allowed = possible_thicknesses(columns, rows, max_step, others)[cell]
            self.check_edges_of_measure(columns, rows, max_step, others, cell, allowed)
            measured = dict(others)
            measured[cell] = choice.choice(sorted(allowed))
            self.check_that_measuring_never_hurts((columns, rows, max_step), others, measured, cell)

    def check_edges_of_measure(self, columns, rows, max_step, others, cell, allowed):
        made = [(CREATE, columns, rows, max_step)]
        made += [(MEASURE, c, t) for c, t in others.items()]
        for thickness in {0, 99, min(allowed), max(allowed), min(allowed) - 1, max(allowed) + 1}:
            if 0 <= thickness <= 99:
                fits = thickness in allowed
                asked = run(*made, (IS_POSSIBLE, cell, thickness), (MEASURE, cell, thickness))[-2:]
                answer = [len(others) + 1] if fits else INCONSISTENT
                self.assertEqual(asked, [[1 if fits else 0], answer])

    def check_that_measuring_never_hurts(self, grid, others, measured, cell):
        lower_before, upper_before = self.bounds(*grid, others)
        lower, upper = self.bounds(*grid, measured)
        for p in range(len(lower)):
            self.assertLessEqual(upper[p] - lower[p], upper_before[p] - lower_before[p])
        self.assertEqual((lower[cell], upper[cell]), (measured[cell], measured[cell]))

    def test_the_most_uncertain_cell_on_many_grids(self):
        choice = random.Random(2)
        for round_number in range(40):
            columns, rows, max_step = choice.randint(1, 5), choice.randint(1, 5), choice.randint(0, 20)
            measures = [(MEASURE, choice.randrange(columns * rows), choice.randint(0, 99)) for number in range(6)]
            answered = run(
                (CREATE, columns, rows, max_step), *measures,
                (LIST_MEASUREMENTS,), (LOWER_BOUNDS,), (UPPER_BOUNDS,), (MOST_UNCERTAIN_CELL,),
            )
            lower, upper = answered[-3][1:], answered[-2][1:]
            apart = [high - low for low, high in zip(lower, upper)]
            with self.subTest(round_number=round_number):
                self.assertEqual(answered[-1], [apart.index(max(apart)), max(apart)])


class RouteRequirementsTest(unittest.TestCase):

    def test_routes_where_few_cells_are_measured(self):
        choice = random.Random(7)
        for round_number in range(150):
            grid = choice.randint(1, 4), choice.randint(1, 4), choice.choice([0, 1, 2, 5, 20])
            with self.subTest(round_number=round_number):
                self.check_routes(choice, grid, 0.3, 5)

    def test_routes_where_every_cell_is_measured(self):
        choice = random.Random(8)
        for round_number in range(200):
            grid = choice.randint(3, 4), choice.randint(3, 4), 20
            with self.subTest(round_number=round_number):
                self.check_routes(choice, grid, 1, 5)

    def test_routes_on_greater_grids(self):
        choice = random.Random(9)
        for round_number in range(20):
            grid = choice.choice([(5, 5, 20), (4, 5, 20), (5, 4, 20)])
            with self.subTest(round_number=round_number):
                self.check_routes(choice, grid, 1, 4)

    def check_routes(self, choice, grid, share_measured, how_many):
        columns, rows, max_step = grid
        made = [(CREATE, columns, rows, max_step)]
        for cell in range(columns * rows):
            if choice.random() < share_measured:
                made.append((MEASURE, cell, choice.choice([49, 50, 50])))
        measured = self.measured(made)
        thinnest = [min(left) for left in possible_thicknesses(columns, rows, max_step, measured)]
        for number in range(how_many):
            required = max(thinnest) - choice.choice([0, 0, 0, 1, -1])
            # Most times there is enough ice at both ends, so that what lies between decides.
            enough = [cell for cell, thickness in enumerate(thinnest) if thickness >= required]
            ends = enough if enough and number > 0 else range(columns * rows)
            self.check_route(made, grid, thinnest, max(0, required), choice.choice(ends), choice.choice(ends))

    def measured(self, made):
        listed = run(*made, (LIST_MEASUREMENTS,))[-1][1:]
        return dict(zip(listed[::2], listed[1::2]))

    def check_route(self, made, grid, thinnest, required, origin, target):
        columns, rows = grid[0], grid[1]
        routes = all_routes(columns, rows, origin, target)
        safe = [route for route in routes if min(thinnest[cell] for cell in route) >= required]
        route, length, thickness = run(
            *made, (SAFE_ROUTE, required, origin, target), (SAFE_ROUTE_LENGTH, required, origin, target),
            (MAX_SAFE_THICKNESS, origin, target),
        )[-3:]
        if safe:
            fewest = min(len(route) for route in safe)
            shortest = [route for route in safe if len(route) == fewest]
            expected = min(shortest, key=lambda route: turns_from_the_target(columns, rows, route))
            self.assertEqual((route, length), ([fewest] + expected, [fewest - 1]))
        else:
            self.assertEqual((route, length), (NO_SAFE_ROUTE, NO_SAFE_ROUTE))
        best = max(min(thinnest[cell] for cell in route) for route in routes)
        self.assertEqual(thickness, [best])
        self.assertNotEqual(run(*made, (SAFE_ROUTE, best, origin, target))[-1], NO_SAFE_ROUTE)
        if best < 99:
            self.assertEqual(run(*made, (SAFE_ROUTE, best + 1, origin, target))[-1], NO_SAFE_ROUTE)


if __name__ == "__main__":
    unittest.main()
